import PyProof.Rows.All
import Wide.All
import OpenK.AllK
import Wide.FinOn
import HandS.ForMost
import HandS.Gcd
import HandS.Wide
import HandS.IsInst
import HandS.NoneIn
import HandS.DeepEq
import HandS.Flow
import HandS.Defaults
import KE.KDflt
import HandS.Lambda
import HandS.EndTab
import HandS.ExcInit
import HandS.ExcValue
import HandS.ExcIs
import HandS.TryMany
import HandS.ExcField
import HandS.SetFor
import HandS.Strs
import HandS.Zip
import HandS.OwnEq
import HandS.WordsExc
import HandS.Conv
import HandS.MakeKwOnly
import PySem.Challenge.RW_neverhit_k17_sheets_made_and_refused
set_option Elab.async false
set_option maxRecDepth 100000
namespace Nv
open PySem PySem.Spec PyProof.Rows L2

/-- (a, b, ..) = a list or a tuple of that length -/
def gSq (K : PySem.W.Frag) (n : Nat) (t : TGs) : TG := fun v σ H Q => ∃ a xs, v = .ref a ∧ (SqT K H a xs ∨ SqL K H a xs) ∧ xs.length = n ∧ t xs σ H Q
theorem pg_sq {X : Cx} {es : List Expr} {k : Nat} {t : TGs} {n : Nat} {pos : Pos} (hc : X.calm = true) (h : PGs X es t)
    (hn : (assignEach es X.env).length = n := by rfl) (hst : (assignEach es X.env).findIdx? (·.1) = none := by rfl) : PG X (.Tuple es k pos) (gSq X.K n t) := by
  refine ⟨fun pins s σ H v u Q I r hw => ?_⟩
  obtain ⟨a, xs, e1, hq, hl, hw⟩ := hw
  rcases hq with hq | hq
  · exact (pg_tup (k := k) (pos := pos) hc h hn hst).run pins s σ H v u Q I r ⟨a, xs, e1, hq, hl, hw⟩
  · exact (pg_unl (k := k) (pos := pos) hc h hn hst).run pins s σ H v u Q I r ⟨a, xs, e1, hq, hl, hw⟩

theorem Same.neu {p : Addr} {H : Hp} {o : HO} (h : H p = none) : Same H (upd H p o) := fun b u e => by
  rw [upd_ne (ne_of_none e h)]
  exact e
/-! displays and calls that lay a new object: the heap behind is told by what holds of it -/
def New (H : Hp) (o : HO) (Q : VK) : Prop := ∀ (p : Addr) (H' : Hp), H p = none → H' p = some o → Same H H' → Q (.ref p) H'
theorem New.old {H : Hp} {o : HO} {Q : VK} (h : New H o Q) : ∀ p, H p = none → Q (.ref p) (upd H p o) := fun p np => h p _ np upd_same (Same.neu np)
section
variable {X : Cx} {es : List Expr} {t : TA} {pos : Pos}
def tLstN (t : TA) : TE := fun σ H Q => t σ H fun xs H1 => xs.length ≤ sizeLine ∧ New H1 (.lst xs) Q
def tTupN (t : TA) : TE := fun σ H Q => t σ H fun xs H1 => xs.length ≤ sizeLine ∧ New H1 (.tup xs) Q
theorem pe_lstN (h : PA X es t) : PE X (.List es pos) (tLstN t) := by
  refine ⟨fun pins s σ H Q I due => wpAny_List_spliced (thn (h.run pos pins s σ H _ I due) fun us s1 ⟨xs, H1, I1, r, z, q⟩ => ⟨by rw [← r.length]; exact z, ?_⟩)⟩
  have fr : H1 s1.heap.objs.size = none := I1.hok.fresh (Nat.le_refl _)
  have I2 : Inv X pins σ (upd H1 s1.heap.objs.size (.lst xs)) { s1 with heap := s1.heap.push { cls := .type "list", data := .seq us.toArray } } :=
    I1.laid (t' := s1.toks) (fun b u e => Heap.get?_push_of_some _ e) (Nat.le_refl _) ⟨z, us, 0, r, Heap.get?_push_size _ rfl⟩
  exact ⟨.ref s1.heap.objs.size, _, I2, rfl, q.old _ fr⟩
theorem pe_tupN {x1} (h : PA X es t) : PE X (.Tuple es x1 pos) (tTupN t) := by
  refine ⟨fun pins s σ H Q I due => wpAny_Tuple_spliced (thn (h.run pos pins s σ H _ I due) fun us s1 ⟨xs, H1, I1, r, z, q⟩ => ⟨by rw [← r.length]; exact z, ?_⟩)⟩
  have fr : H1 s1.heap.objs.size = none := I1.hok.fresh (Nat.le_refl _)
  have I2 : Inv X pins σ (upd H1 s1.heap.objs.size (.tup xs)) { s1 with heap := s1.heap.push { cls := .type "tuple", data := .seq us.toArray } } :=
    I1.laid (t' := s1.toks) (fun b u e => Heap.get?_push_of_some _ e) (Nat.le_refl _) ⟨z, us, r, ⟨_, Heap.get?_push_size _ rfl, rfl, _, rfl⟩⟩
  exact ⟨.ref s1.heap.objs.size, _, I2, rfl, q.old _ fr⟩
def rCatN : R2 := fun x y H Q => ∃ l b xs zs, x = .ref l ∧ y = .ref b ∧ H l = some (.lst xs) ∧ H b = some (.lst zs) ∧ xs.length + zs.length ≤ sizeLine ∧ New H (.lst (xs ++ zs)) Q
theorem op_catN : OpR X (binaryOp .Add) rCatN := fun pins s σ H x y v u Q I rx ry ⟨l, b, xs, zs, e1, e2, h1, h2, hz, q⟩ => op_cat pins s σ H x y v u Q I rx ry ⟨l, b, xs, zs, e1, e2, h1, h2, hz, q.old⟩
def rSlLN (K : PySem.W.Frag) : V → Option Int → Option Int → Hp → VK → Prop := fun x lo hi H Q => ∃ a xs, x = .ref a ∧ SqL K H a xs ∧ New H (.lst (cutV xs lo hi)) Q
theorem sl_listN : SlR X (rSlLN X.K) := fun pins s σ H x v vl vu lo hi sl Q I rx hs pl pu ⟨a, xs, e, h, q⟩ => sl_list pins s σ H x v vl vu lo hi sl Q I rx hs pl pu ⟨a, xs, e, h, q.old⟩
def rTupN (K : PySem.W.Frag) : List V → Hp → VK → Prop := fun xs H Q => ∃ p ys, xs = [.ref p] ∧ ((SqL K H p ys ∧ New H (.tup ys) Q) ∨ (SqT K H p ys ∧ Q (.ref p) H))
theorem cr_tupN : CallR X (.type "tuple") (rTupN X.K) := fun pins s σ H xs us Q I r ⟨p, ys, e, h⟩ => call_tuple_of pins s σ H xs us Q I r ⟨p, ys, e, h.imp (fun ⟨a, q⟩ => ⟨a, q.old⟩) id⟩
def tDNewN : TE := fun _ H Q => New H (.dK []) Q
theorem pe_dnewN : PE X (.Dict [] [] pos) tDNewN := ⟨fun pins s σ H Q I h => pe_dnewK.run pins s σ H Q I fun p np => h.old p np⟩
end
/-! names stored: the slots behind are told by an equation -/
section
variable {X : Cx} {e a b : Expr} {te : TE} {ta : TA} {pos : Pos}
def gNameN (i : Nat) : TG := fun v σ H Q => ∀ σ' : L2.St, σ' = σ.set i (some v) → Q σ' H
theorem pg_nameN {i : Nat} {x : Str} (hN : X.N.Nodup) (hi : X.N[i]? = some x) (hx : Loc X.env.scope x) (hf : X.fn x = true ∨ X.env.scope.names.lookup x = some .local := by first | exact .inl rfl | exact .inr rfl | assumption) : PG X (.Name x pos) (gNameN i) :=
  ⟨fun pins s σ H v u Q I r h => (pg_name (pos := pos) hN hi hx hf).run pins s σ H v u Q I r (h _ rfl)⟩
theorem ps_setN {i : Nat} {x : Str} {pos' : Pos} (hN : X.N.Nodup) (hi : X.N[i]? = some x) (hx : Loc X.env.scope x) (he : PE X e te) (hs : swapsWith e (some (.Name x pos')) pos.line X.env = pure false := by rfl) (hf : X.fn x = true ∨ X.env.scope.names.lookup x = some .local := by first | exact .inl rfl | exact .inr rfl | assumption) :
    PS X (.Assign [.Name x pos'] e pos) (tAsg te (gNameN i)) :=
  ⟨fun pins s σ H D I h => wpAny_Assign_Name (thn (he.run pins s σ H _ I h) fun _ _ ⟨_, H1, I1, r1, q1⟩ => store_ok I1 hN hi hx r1 (fun _ I2 => ⟨_, H1, I2, q1 _ rfl⟩) hf) hs⟩
/-- what follows from what a list of arguments gives -/
def upA (ta : TA) : TA := fun σ H Q => ∃ Q0 : List V → Hp → Prop, ta σ H Q0 ∧ ∀ vs H', Q0 vs H' → Q vs H'
theorem pa_up {es : List Expr} (h : PA X es ta) : PA X es (upA ta) :=
  ⟨fun pos pins s σ H _ I ⟨Q0, q, w⟩ => thn (h.run pos pins s σ H Q0 I q) fun _ _ ⟨vs, H1, I1, r, q1⟩ => ⟨vs, H1, I1, r, w _ _ q1⟩⟩
theorem ps_wk {st : Stmt} {t u : TS} (h : PS X st t) (w : ∀ D σ H, u D σ H → t D σ H) : PS X st u := ⟨fun pins s σ H D I q => h.run pins s σ H D I (w D σ H q)⟩
def tParN (i j : Nat) (ta : TA) : TS := fun D σ H => ta σ H fun vs H1 => ∃ v w, vs = [v, w] ∧ ∀ σ' : L2.St, σ' = (σ.set i (some v)).set j (some w) → D.nx σ' H1
theorem ps_parN {i j : Nat} {x y : Str} {px py pt : Pos} {kt k2 pt2} (hc : X.calm = true) (hN : X.N.Nodup) (hi : X.N[i]? = some x) (hj : X.N[j]? = some y) (hij : i ≠ j)
    (hx : X.env.scope.names.lookup x = some .local) (hy : X.env.scope.names.lookup y = some .local) (ha : PA X [a, b] ta)
    (hw : swappedStores [.Tuple [.Name x px, .Name y py] kt pt] (.Tuple [a, b] k2 pt2) X.env = pure (some [x, y]))
    (hs : swapsWithSole [.Tuple [.Name x px, .Name y py] kt pt] (.Tuple [a, b] k2 pt2) pos.line X.env = pure false := by rfl) :
    PS X (.Assign [.Tuple [.Name x px, .Name y py] kt pt] (.Tuple [a, b] k2 pt2) pos) (tParN i j ta) :=
  ps_wk (ps_par hc hN hi hj hij hx hy (pa_up ha) hw hs) fun D σ H q => ⟨_, q, fun vs H' ⟨v, w, e1, k⟩ => ⟨v, w, e1, k _ rfl⟩⟩
end
/-! repr of plain data, where no repr is under way -/
def rRepr (K : PySem.W.Frag) : List V → Hp → VK → Prop := fun xs H Q => ∃ p d, xs = [.ref p] ∧ Dp K H (.ref p) d ∧ d.showable = true ∧ d.hasDict = false ∧ d.depth ≤ 60 ∧ d.shown.length ≤ sizeLine ∧ Q (.str d.shown) H
theorem cr_repr {X : Cx} (hg : X.A.guards = some []) (hu : X.A.units + 70 < cLine) : CallR X (.builtin "repr") (rRepr X.K) := by
  intro pins s σ H xs us Q I r h
  obtain ⟨p, d, rfl, hd, hs, hn, hp, hz, q⟩ := h
  cases r with
  | cons r1 r2 =>
    cases r2
    cases r1
    obtain ⟨as, rd⟩ := Dp.reads I d _ _ hd rfl
    refine repr_of_reads' rd hs (fun z => ?_) hg (by omega) (fun _ _ e => e) (fun h' u tk hk => ?_) hz
    · rw [hn] at z; cases z
    · exact ⟨.str d.shown, H, I.kept hk, ⟨u, rfl⟩, q⟩

/-- a != b of two lists of the same items -/
def rNeSame (K : PySem.W.Frag) : R2 := fun x y H Q => ∃ a b xs, x = .ref a ∧ y = .ref b ∧ SqL K H a xs ∧ SqL K H b xs ∧ (∀ z ∈ xs, (∃ c, z = .ref c) ∨ flatB z = true) ∧ Q (.bl false) H
theorem op_neSame {X : Cx} (hu : X.A.units + 2 < cLine) :
    OpR X (compareOp .NotEq) (rNeSame X.K) := by
  intro pins s σ H x y v u Q I rx ry h
  obtain ⟨a, b, xs, rfl, rfl, ha, hb, hf, q⟩ := h
  cases rx
  cases ry
  obtain ⟨us, r1, p1, _⟩ := I.list ha
  obtain ⟨ws, r2, p2, _⟩ := I.list hb
  have hsz : us.toArray.size = ws.toArray.size := by
    rw [List.size_toArray, List.size_toArray, ← r1.length, ← r2.length]
  have hlen := r1.length
  have hit : ∀ j (h1 : j < us.toArray.size) (h2 : j < ws.toArray.size), SeqAt.EqAt X.A.in1 s us.toArray[j] ws.toArray[j] ((fun _ => true) j) := fun j h1 h2 => by
    have l1 : j < us.length := by simpa using h1
    have l2 : j < ws.length := by simpa using h2
    have l0 : j < xs.length := by omega
    obtain ⟨u1, e1, q1⟩ := r1.get (List.getElem?_eq_getElem l0)
    obtain ⟨u2, e2, q2⟩ := r2.get (List.getElem?_eq_getElem l0)
    have g1 : us[j] = u1 := by
      rw [List.getElem?_eq_getElem l1] at e1
      exact Option.some.inj e1
    have g2 : ws[j] = u2 := by
      rw [List.getElem?_eq_getElem l2] at e2
      exact Option.some.inj e2
    show SeqAt.EqAt X.A.in1 s us[j] ws[j] true
    rw [g1, g2]
    rcases hf _ (List.getElem_mem l0) with ⟨c, e⟩ | f
    · rw [e] at q1 q2
      cases q1
      cases q2
      exact SeqAt.EqAt.same _
    · exact eqAt_same q1 q2 f
  have fin := SeqAt.RcNeAt.lists (e := fun _ => true) p1.isList p2.isList hsz (by omega) hit X.prog X.w X.xe (EP X pins σ Q)
  refine fin ?_
  have e : (!(List.range us.toArray.size).all fun _ => true) = false := by
    rw [List.all_eq_true.mpr fun _ _ => rfl]
    rfl
  rw [e]
  exact ⟨.bl false, H, I, rfl, q⟩

/-! ### a def's promise where no guard is under way -/
structure FnG (P : Program) (w : World) (K : PySem.W.Frag) (mg : Str → Option Value) (base : Heap) (k : Nat) (f : Addr) (fd : FuncData) (ps : List Str) (sp : Sp) : Prop where
  arity : ∀ vs H Q E, sp vs H Q E → vs.length = ps.length
  go : ∀ (A : Around) (fr : List Env) (s : Shared) (H : Hp) (ar : Args) (us : List Value) (vs : List V) (Q : VK) (E : XK), A.guards = some [] → Room k A → Env0 P w K mg base A fr s H →
    BindsTo s fd ar (ps.zip us) → Vals vs us → sp vs H Q E → codeAny (model P w) A (.call (.ref f) ar) (CR CX0 fr P w H s Q E) s
theorem FnG.of {P : Program} {w : World} {K : PySem.W.Frag} {mg : Str → Option Value} {base : Heap} {x qual : Str} {st : Stmt} {f : Addr} {fd : FuncData} {N ps : List Str} {k : Nat} {sp : Sp}
    (F : Fun K x qual st f fd) (S : FnScope N ps (defScope st)) (ar : ∀ vs H Q E, sp vs H Q E → vs.length = ps.length)
    (walk : ∀ (cdv : Value) (A : Around) (fr : List Env) (s : Shared) (H : Hp) (vs : List V) (Q : VK) (E : XK), A.guards = some [] → Room k (A.deeper (envOfC qual (defScope st) s.heap.objs.size f cdv)) → sp vs H Q E →
      ∃ t, PSs (cxOf CX0 P w K mg base N qual (defScope st) f cdv A fr s H E).nox (defBody st) t ∧ t { nx := fun _ H' => Q .non H', rt := Q } (start N vs) H) : FnG P w K mg base (k + 1) f fd ps sp := by
  obtain ⟨c1, c2, kV, c3, c4, c5, cdv, c6, c7, rfl, lkp, cod⟩ := F.ex
  refine ⟨ar, fun A fr s H ag us vs Q E hG room env0 bnd r due => ?_⟩
  have cnt := ar _ _ _ _ due
  have inK : K.In s.heap := env0.mod.kin.keeps fun b o e => (env0.bs b o e).1
  have noL : s.heap.NoLimit := env0.mod.nolimit.keeps fun b o e => (env0.bs b o e).1
  have kinds : ∀ y ∈ ps.zip us, (defScope st).names.lookup y.1 = some .local ∨ ((defScope st).names.lookup y.1 = some .cell ∧ ((cellsFrom (s.heap.objs.size + 1) (defScope st).names []).lookup y.1).isSome = true) := fun ⟨n, v⟩ hy => by
    rcases S.par n (List.of_mem_zip hy).1 with c | c
    · exact .inl c
    · exact .inr ⟨c, PySem.W.cellsFrom_some _ _ _ (.inl c)⟩
  refine codeAny_call_function room.depth (inK _ _ lkp) rfl S.co S.gen rfl (PySem.W.codeRec_of inK cod) (bnd _ _ _ _ ?_)
  refine wpAny_newFunctionEnv_cells S.kind kinds fun env ee s1 xx => ?_
  subst ee
  refine ⟨noL.keeps xx.toInCall.keep, codeAny_func ?_⟩
  obtain ⟨t, ht, hq⟩ := walk cdv A fr s H vs Q E hG (room.deeper _) due
  have I : Inv (cxOf CX0 P w K mg base N qual (defScope st) f cdv A fr s H E) [] (start N vs) H s1 := inv_start S room.hd env0 cnt r xx
  refine wpAny_mono (ht.nox.run [] s1 (start N vs) H _ I hq) (fun fl s' hs => ?_) fun e s' hs => hs
  have done : ∀ {σ' : L2.St} {H' : Hp} {v : V} {u : Value}, Inv (cxOf CX0 P w K mg base N qual (defScope st) f cdv A fr s H E) [] σ' H' s' → RelV v u → Q v H' → CE fr P w H s Q u s' :=
    fun {σ' H' v u} J rv q => ⟨v, H', J.os, J.bare, J.base, J.hok, rv, q⟩
  cases fl with
  | brk =>
    obtain ⟨_, _, _, q⟩ := hs
    exact q.elim
  | cont =>
    obtain ⟨_, _, _, q⟩ := hs
    exact q.elim
  | next =>
    obtain ⟨σ', H', J, q⟩ := hs
    exact done (v := V.non) (u := Value.none) J rfl q
  | ret u =>
    obtain ⟨v, σ', H', J, rv, q⟩ := hs
    exact done J rv q

/-- f(k = v, ..), no positional argument -/
theorem pe_kw0 {X : Cx} {CX : CXT} {k : Nat} {f : Addr} {fd : FuncData} {ps ks : List Str} {sp : Sp} {E : XK} {x : Str} {p pos : Pos} {kws : List Keyword} {tk : TA} {g : List Value → List Value → List Value} {gV : List V → List V → List V}
    (F : FnOk X.prog X.w X.K X.mg X.base CX k f fd ps sp) (room : Room k X.A) (glo : Gl X x) (at_ : X.mg x = some (.ref f)) (kp : PySem.W.keepIn X.K (.ref f) = true) (bnd : KBn X.K fd ps 0 ks g gV) (out : Passes CX X E)
    (hkw : PK X kws tk) (named : (backToKw pos (keywordEach kws X.env)).all (·.1.isSome) = true := by rfl) (names : (backToKw pos (keywordEach kws X.env)).filterMap (·.1) = ks := by rfl)
    (nodbg : (x == ("__debug__" : Str)) = false := by decide) (nostar : ((backTo pos (starEach [] X.env)).any (·.1) || (backToKw pos (keywordEach kws X.env)).any (·.1.isNone)) = false := by rfl) :
    PE X (.Call (.Name x p) [] kws pos) (tCallN 0 ks.length sp gV E tNil tk) := by
  refine ⟨fun pins s σ H Q I h => wpAny_Call_Name_kw (ld_glob I glo at_ (PySem.W.callWith_KW0 (h₀ := X.base) I.ok.mod.kin kp named ?_ nostar) nodbg)⟩
  refine thn (hkw.run pos pins s σ H _ I h) fun ws s2 ⟨zs, H2, I2, rz, l1, l2, q2⟩ => ⟨I2.kIn, ?_⟩
  rw [names]
  exact run_fnN (us := []) (vs := []) F room bnd out I2 .nil rz rfl l2 q2

/-! ### the law's call where its def's promise is one of FnG -/
section
variable {P : Program} {w : World} {K : PySem.W.Frag} {mg mb : Str → Option Value} {k : Nat} {fa a : Addr} {fd : FuncData} {x : Str} {sp : Sp} {s1 : Shared} {vs : List Value} {ns : List Int}
/-- the end of a law's run -/
def LawEnd (s1 : Shared) (r : Result) (s' : Shared) : Prop := r = .ok (.ret (.bool true)) ∧ OldK s1.heap s'.heap ∧ s'.os = s1.os ∧ AllBare s'.gens
theorem callG (inK : K.In s1.heap) (gns : s1.heap.Ns mainGlobals mg) (bns : s1.heap.Ns builtinsNs mb) (bbo : ∀ x : Str, x ≠ "__name__" → mb x = bootBuiltins x) (nol : s1.heap.NoLimit) (nog : s1.gens = #[])
    (scr : s1.heap.get? a = some { cls := .type "list", data := .seq vs.toArray }) (nums : IntsAre vs ns) (len : ns.length ≤ sizeLine) (room : Room k callerA)
    (F : ∀ base : Heap, K.In base → base.Ns mainGlobals mg → FnG P w K mg base k fa fd [x] sp) (bnd : ∀ (s : Shared) (u : Value), BindsTo s fd ⟨[u], []⟩ [(x, u)])
    (due : ∀ H : Hp, Only H → SqL K H a (ns.map V.int) → sp [.ref a] H (fun v _ => v = .bl true) fun _ _ _ => False) :
    codeAny (model P w) callerA (.call (.ref fa) ⟨[.ref a], []⟩) (LawEnd s1) s1 := by
  have rel := vals_ints nums
  have cnt := nums.length
  have main : ∀ H : Hp, Only H → SqL K H a (ns.map V.int) → HOk P w H s1.heap → (∀ b, H b ≠ none → b = a) → (H a ≠ none → K.lookup a = none) →
      codeAny (model P w) callerA (.call (.ref fa) ⟨[.ref a], []⟩) (LawEnd s1) s1 := by
    intro H only seq okH onlyA notK
    have isA : ∀ {b : Addr} {u : HO}, H b = some u → b = a := fun {b u} e => onlyA b (by rw [e]; simp)
    have low : ∀ {b : Addr} {o : Obj}, s1.heap.get? b = some o → H b = none → (hidT s1.heap H).get? b = some o := fun g n => hidT_get g n
    have dictFree : ∀ {b : Addr} {o : Obj} {es : Array DictEntry} {ep : Nat}, s1.heap.get? b = some o → o.data = .dict es ep → H b = none := fun {b o es ep} g d => by
      cases c : H b with
      | none => rfl
      | some u =>
        obtain rfl := isA c
        rw [scr] at g
        cases g
        cases (show Data.seq vs.toArray _ = Data.dict es ep from d)
    have lowNs : ∀ {b : Addr} {m : Str → Option Value}, s1.heap.Ns b m → (hidT s1.heap H).Ns b m := fun {b m} ⟨o, es, ep, g, d, r⟩ => ⟨o, es, ep, low g (dictFree g d), d, r⟩
    have lowK : K.In (hidT s1.heap H) := fun b o e => low (inK b o e) (by
      cases c : H b with
      | none => rfl
      | some u =>
        obtain rfl := isA c
        rw [notK (by rw [c]; simp)] at e
        cases e)
    have modu : Mod K mg (hidT s1.heap H) := ⟨lowK, lowNs gns, ⟨mb, lowNs bns, bbo⟩, let ⟨mc, c1, c2⟩ := nol; ⟨mc, lowNs c1, c2⟩⟩
    have env0 : Env0 P w K mg (hidT s1.heap H) callerA [] s1 H := ⟨rfl, modu, fun b o e => of_hidT e, Nat.le_of_eq (hidT_size _ _), trivial, fun b hb => absurd (show b ∈ ([] : List Addr) from hb) (by simp), okH, .of_eq nog⟩
    refine codeAny_mono ((F _ lowK (lowNs gns)).go callerA [] s1 H ⟨[.ref a], []⟩ [.ref a] [.ref a] _ _ rfl room env0 (bnd s1 (.ref a)) (.cons rfl .nil) (due H only seq)) fun r s' h => ?_
    cases r with
    | error e => exact False.elim h
    | ok fl =>
      cases fl with
      | brk => exact False.elim h
      | cont => exact False.elim h
      | next => exact False.elim h
      | ret u =>
        obtain ⟨v, H', sameOs, bare', unt, okH', rl, good⟩ := h
        obtain rfl : v = .bl true := good
        obtain rfl : u = Value.bool true := rl
        refine ⟨rfl, OldK.of_keep fun b o g => ?_, sameOs, bare'⟩
        cases c : H b with
        | none => exact unt.keep b o g c (by intro z; exact absurd (show b ∈ ([] : List Addr) from z) (by simp)) (by simp)
        | some u =>
          rcases only b with z | ⟨ob, xs, z⟩
          · rw [c] at z; cases z
          · obtain ⟨g1, _⟩ := okH b _ z
            obtain ⟨g2, _⟩ := okH' b _ (unt.frzs b ob _ z)
            rw [g] at g1; cases g1
            exact g2
  cases inn : K.lookup a with
  | some o =>
    have g := inK a o inn
    rw [scr] at g
    cases g
    refine main (fun _ => none) (fun _ => .inl rfl) (.inr ⟨_, vs.toArray, _, inn, rfl, rfl, rfl, by rw [List.size_toArray, cnt]; exact len, by simpa using rel⟩) (fun b u z => ?_) (fun b z => absurd rfl z) fun z => absurd rfl z
    cases (show (none : Option HO) = some u from z)
  | none =>
    refine main (fun b => if b = a then some (.frz { cls := .type "list", data := .seq vs.toArray } (.lst (ns.map V.int))) else none) (fun b => ?_) (.inl (.inr ⟨{ cls := .type "list", data := .seq vs.toArray }, if_pos rfl⟩)) (fun b u z => ?_) (fun b z => ?_) fun _ => inn
    · by_cases e : b = a
      · exact .inr ⟨_, _, if_pos e⟩
      · exact .inl (if_neg e)
    · by_cases e : b = a
      · have z2 := (if_pos e).symm.trans z
        cases z2
        subst e
        exact ⟨scr, by rw [List.length_map]; exact len, vs, _, rel, scr⟩
      · have z2 := (if_neg e).symm.trans z
        cases z2
    · by_cases e : b = a
      · exact e
      · exact absurd (if_neg e) z
end
theorem walkG {l : PySem.W.OpenLaw} {n k : Nat} {q : Program} {loose : List Str} {XP : (Str → Option Value) → Heap → Prop} {YP : World → Heap → Prop} {d : DefRec} {K : Params → PySem.W.Frag} {sp : World → Sp} {x : Str}
    (most : l.most = some n) (small : n ≤ sizeLine) (nodef : d.params.defaults = []) (room : Room k callerA) (inK : ∀ (w : World) (h : Heap), YP w h → (K w.params).In h)
    (F : ∀ (w : World) (mg : Str → Option Value) (fa : Addr) (h : Heap), (K w.params).In h → h.Ns mainGlobals mg → mg d.name = some (.ref fa) →
      ∃ fd : FuncData, (∀ (s : Shared) (u : Value), BindsTo s fd ⟨[u], []⟩ [(x, u)]) ∧ ∀ base : Heap, (K w.params).In base → base.Ns mainGlobals mg → FnG l.prog w (K w.params) mg base k fa fd [x] (sp w))
    (due : ∀ (w : World) (H : Hp) (a : Addr) (ns : List Int), ns.length ≤ n → Only H → SqL (K w.params) H a (ns.map V.int) → sp w [.ref a] H (fun v _ => v = .bl true) fun _ _ _ => False) :
    PySem.W.WalkO q loose XP YP l.row.toRowW d [] (fun f vs => PySem.call f vs) := by
  refine Att.attach_call most nodef fun w s0 s1 mg mb fa o pm cd doc a vs ns G Y hobj _ _ hmg scr nums len nog => ?_
  obtain ⟨fd, bnd, ok⟩ := F w mg fa _ (inK w _ Y) G.T.g hmg
  exact callG (inK w _ Y) G.T.g G.T.b G.T.builtins G.T.nolimit nog scr nums (Nat.le_trans len small) room ok bnd fun H only seq => due w H a ns len only seq
end Nv

set_option maxRecDepth 100000
set_option maxHeartbeats 4000000
namespace Nv
open PySem PySem.Spec PyProof.Rows L2
/-! values by their shapes -/
inductive Sh where
  | non | bl (b : Bool) | int (i : Int) | str (z : Str) | lst (xs : List V) | tup (xs : List V) | dic
inductive Is (H : Hp) : V → Sh → Prop where
  | non : Is H .non .non
  | bl (b : Bool) : Is H (.bl b) (.bl b)
  | int (i : Int) : Is H (.int i) (.int i)
  | str (z : Str) : Is H (.str z) (.str z)
  | lst {a : Addr} {xs : List V} (e : H a = some (.lst xs)) : Is H (.ref a) (.lst xs)
  | tup {a : Addr} {xs : List V} (e : H a = some (.tup xs)) : Is H (.ref a) (.tup xs)
  | dic {a : Addr} {kvs : List (Key × V)} (e : H a = some (.dK kvs)) : Is H (.ref a) .dic
def Kn (H : Hp) (x : V) : Prop := ∃ s, Is H x s
theorem Is.up {H H' : Hp} {x : V} {s : Sh} (h : Is H x s) (e : Same H H') : Is H' x s := by
  cases h with
  | non => exact .non
  | bl b => exact .bl b
  | int i => exact .int i
  | str z => exact .str z
  | lst q => exact .lst (e _ _ q)
  | tup q => exact .tup (e _ _ q)
  | dic q => exact .dic (e _ _ q)
theorem Kn.up {H H' : Hp} {x : V} (h : Kn H x) (e : Same H H') : Kn H' x := let ⟨s, q⟩ := h; ⟨s, q.up e⟩
def tyN : Sh → String
  | .non => "NoneType" | .bl _ => "bool" | .int _ => "int" | .str _ => "str" | .lst _ => "list" | .tup _ => "tuple" | .dic => "dict"
theorem Is.ty {K : PySem.W.Frag} {H : Hp} {x : V} {s : Sh} (h : Is H x s) : TyX K H x (.type (tyN s)) := by
  cases h with
  | non => exact .base .non
  | bl b => exact .base (.bl b)
  | int i => exact .base (.int i)
  | str z => exact .base (.str z)
  | lst q => exact .base (.lst q)
  | tup q => exact .base (.tup q)
  | dic q => exact .base (.dK q)
def isI : V → Bool
  | .int _ => true
  | _ => false
def isInt : Sh → Bool
  | .int _ => true
  | _ => false
theorem Is.isI {H : Hp} {x : V} {s : Sh} (h : Is H x s) : Nv.isI x = isInt s := by cases h <;> rfl
def rowOf : Sh → Option (List V)
  | .lst xs => some xs
  | .tup xs => some xs
  | _ => none
def kI : Sh → Bool
  | .bl _ => true
  | .int _ => true
  | _ => false
def kB : Sh → Bool
  | .bl _ => true
  | _ => false
theorem kit_int (s : Sh) : kitB (tyN s) "int" = some (kI s) := by cases s <;> (dsimp only [tyN, kI]; decide +kernel)
theorem kit_bool (s : Sh) : kitB (tyN s) "bool" = some (kB s) := by cases s <;> (dsimp only [tyN, kB]; decide +kernel)
theorem kit_list (s : Sh) : kitB (tyN s) "list" = some (match s with | .lst _ => true | _ => false) := by cases s <;> (dsimp only [tyN]; decide +kernel)
theorem kit_tuple (s : Sh) : kitB (tyN s) "tuple" = some (match s with | .tup _ => true | _ => false) := by cases s <;> (dsimp only [tyN]; decide +kernel)

theorem ifb {b : Bool} {A B : Prop} (h1 : b = true → A) (h2 : b = false → B) : if b = true then A else B := by
  cases b with
  | true => exact iteT (h1 rfl)
  | false => exact iteF (h2 rfl)
def bV : Option Int → V
  | none => .non
  | some i => .int i
def geO (v : Int) : Option Int → Bool
  | none => true
  | some l => decide (l ≤ v)
def leO (v : Int) : Option Int → Bool
  | none => true
  | some h => decide (v ≤ h)
def wIn (x : V) (lo hi : Option Int) : Bool := match x with
  | .int v => geO v lo && leO v hi
  | _ => false
section
variable {K : PySem.W.Frag}
theorem Is.row {H : Hp} {x : V} {s : Sh} {xs : List V} (h : Is H x s) (e : rowOf s = some xs) : ∃ a, x = .ref a ∧ (SqT K H a xs ∨ SqL K H a xs) := by
  cases h with
  | lst q => cases e; exact ⟨_, rfl, .inr (SqL.of q)⟩
  | tup q => cases e; exact ⟨_, rfl, .inl (SqT.of q)⟩
  | non => cases e
  | bl b => cases e
  | int b => cases e
  | str b => cases e
  | dic b => cases e
theorem ix_row {H : Hp} {a : Addr} {xs : List V} {i : Int} {v : V} {Q : VK} (h : SqT K H a xs ∨ SqL K H a xs) (e : atI xs i = some v) (q : Q v H) : rIx K (.ref a) (.int i) H Q := by
  rcases h with h | h
  · exact .inr (.inl ⟨a, xs, i, v, rfl, rfl, h, e, q⟩)
  · exact .inl ⟨a, xs, i, v, rfl, rfl, h, e, q⟩
end
/-- a def of the top by its name -/
structure Df (K : PySem.W.Frag) (mg : Str → Option Value) (x : Str) (st : Stmt) (ps : List Str) (f : Addr) (fd : FuncData) : Prop where
  F : Fun K x x st f fd
  m : mg x = some (.ref f)
  b : Binds K fd ps []

section
variable {K : PySem.W.Frag}
def spInt : Sp := fun vs H Q _ => ∃ x, vs = [x] ∧ Kn H x ∧ Q (.bl (isI x)) H
def spWithin : Sp := fun vs H Q _ => ∃ x lo hi, vs = [x, bV lo, bV hi] ∧ Kn H x ∧ Q (.bl (wIn x lo hi)) H
def spRow : Sp := fun vs H Q _ => ∃ x s, vs = [x] ∧ Is H x s ∧ ∀ H', Same H H' → Q (.bl (rowOf s).isSome) H'
end
end Nv

set_option maxRecDepth 100000
set_option maxHeartbeats 4000000
namespace Nv
open PySem PySem.Spec PyProof.Rows L2
/-! ### draws: the lantern is a list of the cells' list and two numbers -/
def Keep (L : Addr) (H H' : Hp) : Prop := ∀ b o, b ≠ L → H b = some o → H' b = some o
theorem Keep.trans {L : Addr} {H H1 H2 : Hp} (a : Keep L H H1) (b : Keep L H1 H2) : Keep L H H2 := fun c o n h => b c o n (a c o n h)
theorem Keep.refl (L : Addr) (H : Hp) : Keep L H H := fun _ _ _ h => h
theorem Keep.new {L p : Addr} {H : Hp} {o : HO} (h : H p = none) : Keep L H (upd H p o) := fun b u _ e => by
  rw [upd_ne (ne_of_none e h)]
  exact e
theorem Same.keep {L : Addr} {H H' : Hp} (h : Same H H') : Keep L H H' := fun b o _ e => h b o e
theorem Same.new {p : Addr} {H : Hp} {o : HO} (h : H p = none) : Same H (upd H p o) := fun b u e => by
  rw [upd_ne (ne_of_none e h)]
  exact e
/-- the cells' list at l, the turn, the rest -/
structure Lan (H : Hp) (L l : Addr) (cs : List Int) (t : Nat) : Prop where
  ex : ∃ (turn rest : Int), H L = some (.lst [.ref l, .int turn, .int rest]) ∧ H l = some (.lst (cs.map V.int)) ∧ l ≠ L ∧ cs.length ≤ 60 ∧ 0 ≤ turn ∧ turn ≤ t
theorem Lan.same {H H' : Hp} {L l : Addr} {cs : List Int} {t : Nat} (a : Lan H L l cs t) (e : Same H H') : Lan H' L l cs t := by
  obtain ⟨u, r, h1, h2, h3⟩ := a.ex
  exact ⟨u, r, e _ _ h1, e _ _ h2, h3⟩
theorem Lan.ne {H : Hp} {L l : Addr} {cs : List Int} {t : Nat} (a : Lan H L l cs t) : ∃ o, H L = some o := by
  obtain ⟨u, r, h1, h2, h3⟩ := a.ex
  exact ⟨_, h1⟩
theorem Lan.cells {H : Hp} {L l : Addr} {cs : List Int} {t : Nat} (a : Lan H L l cs t) : H l = some (.lst (cs.map V.int)) := by
  obtain ⟨u, r, h1, h2, h3⟩ := a.ex
  exact h2
theorem Lan.more {H : Hp} {L l : Addr} {cs : List Int} {t u : Nat} (a : Lan H L l cs t) (h : t ≤ u) : Lan H L l cs u := by
  obtain ⟨turn, rest, h1, h2, h3, h4, h5, h6⟩ := a.ex
  exact ⟨turn, rest, h1, h2, h3, h4, h5, by omega⟩
theorem Lan.apart {H : Hp} {L l p : Addr} {cs : List Int} {t : Nat} (a : Lan H L l cs t) (np : H p = none) : p ≠ L ∧ p ≠ l := by
  obtain ⟨o, e⟩ := a.ne
  exact ⟨(ne_of_none e np).symm, (ne_of_none a.cells np).symm⟩
theorem Lan.upd {H : Hp} {L l p : Addr} {cs : List Int} {t : Nat} {o : HO} (a : Lan H L l cs t) (h1 : p ≠ L) (h2 : p ≠ l) : Lan (L2.upd H p o) L l cs t := by
  obtain ⟨turn, rest, g1, g2, g3⟩ := a.ex
  exact ⟨turn, rest, by rw [upd_ne h1.symm]; exact g1, by rw [upd_ne h2.symm]; exact g2, g3⟩
theorem shaped_ints (cs : List Int) : SeqAt.shaped (.list (cs.map PyData.int)) = true := by
  have h1 : PyData.canLayAll0 (cs.map PyData.int) = true := by
    induction cs with
    | nil => rfl
    | cons c r ih =>
      show (PyData.canLay0 (.int c) && PyData.canLayAll0 (r.map PyData.int)) = true
      rw [ih]; rfl
  have h2 : PyData.depthAll (cs.map PyData.int) = 0 := by
    induction cs with
    | nil => rfl
    | cons c r ih =>
      show max (PyData.depth (.int c)) (PyData.depthAll (r.map PyData.int)) = 0
      rw [ih]
      · rfl
      · have z := (Bool.and_eq_true_iff.mp (show (PyData.canLay0 (.int c) && PyData.canLayAll0 (r.map PyData.int)) = true from h1)).2
        exact z
  have e1 : PyData.canLay0 (.list (cs.map PyData.int)) = true := by
    simp only [PyData.canLay0]
    exact h1
  have e2 : PyData.depth (.list (cs.map PyData.int)) = 1 := by
    simp only [PyData.depth]
    rw [h2]
  unfold SeqAt.shaped
  rw [e1, e2]
  rfl
theorem dpAll_ints {K : PySem.W.Frag} {H : Hp} : ∀ cs : List Int, DpAll K H (cs.map V.int) (cs.map PyData.int)
  | [] => .nil
  | c :: r => .cons (.int c) (dpAll_ints r)
theorem eqv_nil (cs : List Int) : PyData.eqv (.list (cs.map PyData.int)) (.list []) = cs.isEmpty := by
  cases cs with
  | nil => simp [PyData.eqv, PyData.eqvAll]
  | cons c r => simp [PyData.eqv, PyData.eqvAll]
theorem at_mod {cs : List Int} (h : cs ≠ []) (t : Int) : ∃ c, atI (cs.map V.int) (t % ((cs.map V.int).length : Int)) = some (.int c) := by
  have hl : 0 < cs.length := List.length_pos_iff.mpr h
  have h1 := Int.emod_nonneg t (show ((cs.length : Nat) : Int) ≠ 0 by omega)
  have h2 := Int.emod_lt_of_pos t (show (0 : Int) < ((cs.length : Nat) : Int) by omega)
  rw [List.length_map]
  obtain ⟨j, ej⟩ : ∃ j : Nat, t % ((cs.length : Nat) : Int) = (j : Int) := ⟨(t % ((cs.length : Nat) : Int)).toNat, by omega⟩
  have hj : j < cs.length := by omega
  refine ⟨cs[j], ?_⟩
  rw [ej]
  refine atI_nat ?_
  rw [List.getElem?_map, List.getElem?_eq_getElem hj]
  rfl
theorem abs_if (c : Int) : (if c < 0 then -c else c) = (c.natAbs : Int) := by
  split <;> omega

theorem posm {m : Int} (h : 0 < m) : 0 < m := h
theorem mul_le_ {a t : Int} (ha : 0 ≤ a) (ha2 : a ≤ 200000) (h0 : 0 ≤ t) (h1 : t ≤ 1000000) : 0 ≤ a * t ∧ a * t ≤ 200000000000 := by
  refine ⟨Int.mul_nonneg ha h0, ?_⟩
  have := Int.mul_le_mul ha2 h1 h0 (by decide)
  omega
theorem pow5 {c m a b t e : Int} (hm : 0 < m) (hm2 : m ≤ 4294967296) (ha : 0 ≤ a) (ha2 : a ≤ 200000) (hb : 0 ≤ b) (hb2 : b ≤ 200000 ∧ 0 ≤ e ∧ e ≤ 1000000) (h0 : 0 ≤ t) (h1 : t ≤ 1000000) : CPow (c % m + a * t + b) e := by
  have p1 := Int.emod_nonneg c (show m ≠ 0 by omega)
  have p2 := Int.emod_lt_of_pos c hm
  obtain ⟨p3, p4⟩ := mul_le_ ha ha2 h0 h1
  refine ⟨hb2.2.1, hb2.2.2, ?_⟩
  omega
theorem mul5 {x m y : Int} (hm : 0 < m) (hm2 : m ≤ 4294967296) : CMul (x % m) y := by
  have p1 := Int.emod_nonneg x (show m ≠ 0 by omega)
  have p2 := Int.emod_lt_of_pos x hm
  exact .inl ⟨by omega, by omega⟩
theorem mul6 {a t y : Int} (ha : 0 ≤ a) (ha2 : a ≤ 200000) (h0 : 0 ≤ t) (h1 : t ≤ 1000000) : CMul (a * t) y := by
  obtain ⟨p3, p4⟩ := mul_le_ ha ha2 h0 h1
  exact .inl ⟨by omega, by omega⟩
theorem pow3 {x m a b c d t e : Int} (hm : 0 < m) (hm2 : m ≤ 4294967296) (ha : 0 ≤ a) (ha2 : a ≤ 2) (hb : 0 ≤ b) (hb2 : b ≤ 200000) (hc : 0 ≤ c) (hc2 : c ≤ 200000) (hd : 0 ≤ d) (hd2 : d ≤ 200000 ∧ 0 ≤ e ∧ e ≤ 1000000) (h0 : 0 ≤ t) (h1 : t ≤ 1000000) :
    CPow (x % m * (a * t + b) + c * t * t + d) e := by
  have p1 := Int.emod_nonneg x (show m ≠ 0 by omega)
  have p2 := Int.emod_lt_of_pos x hm
  have a1 : 0 ≤ a * t := Int.mul_nonneg ha h0
  have a2 := Int.mul_le_mul ha2 h1 h0 (by decide)
  obtain ⟨p3, p4⟩ := mul_le_ hc hc2 h0 h1
  have b1 : 0 ≤ x % m * (a * t + b) := Int.mul_nonneg p1 (by omega)
  have b2 := Int.mul_le_mul (show x % m ≤ 4294967296 by omega) (show a * t + b ≤ 2200000 by omega) (by omega) (by decide)
  have c1 : 0 ≤ c * t * t := Int.mul_nonneg p3 h0
  have c2 := Int.mul_le_mul p4 h1 h0 (by decide)
  refine ⟨hd2.2.1, hd2.2.2, ?_⟩
  omega
def spFlick : Sp := fun vs H Q _ => ∃ (L : Addr) (n : Int) (t : Nat) (l : Addr) (cs : List Int), vs = [.ref L, .int n] ∧ 0 < n ∧ n.natAbs.log2 < 9000 ∧ Lan H L l cs t ∧ t ≤ 1000000 ∧
  ∀ (H' : Hp) (r : Int), Keep L H H' → Lan H' L l cs (t + 1) → 0 ≤ r → r < n → Q (.int r) H'
def spLantern (K : PySem.W.Frag) : Sp := fun vs H Q _ => ∃ (a : Addr) (ns : List Int), vs = [.ref a] ∧ SqL K H a (ns.map V.int) ∧ ns.length ≤ 63 ∧ ∀ (H' : Hp) (L l : Addr) (cs : List Int), Same H H' → H L = none → H l = none → Lan H' L l cs 0 → Q (.ref L) H'
theorem cut60 (xs : List V) : cutV xs none (some 60) = xs.take 60 := by
  unfold cutV
  rw [HT.sIx_none, show HT.sIx xs.length xs.length (some 60) = min 60 xs.length from HT.sIx_nat xs.length xs.length 60, List.drop_zero, Nat.sub_zero]
  rcases Nat.le_total 60 xs.length with h | h
  · rw [Nat.min_eq_left h]
  · rw [Nat.min_eq_right h, List.take_length, List.take_of_length_le h]
def spPick : Sp := fun vs H Q _ => ∃ (L p : Addr) (xs : List V) (t : Nat) (l : Addr) (cs : List Int), vs = [.ref L, .ref p] ∧ (H p = some (.lst xs) ∨ H p = some (.tup xs)) ∧ p ≠ L ∧ 0 < xs.length ∧ xs.length ≤ 100000 ∧ Lan H L l cs t ∧ t ≤ 1000000 ∧
  ∀ (H' : Hp) (v : V), v ∈ xs → Keep L H H' → Lan H' L l cs (t + 1) → Q v H'
theorem log_small {n : Int} (h0 : 0 < n) (h : n ≤ 4000000000000) : n.natAbs.log2 < 9000 := by
  have e : n.natAbs < 2 ^ 64 := by omega
  have := PySem.Flt.log2_lt_of (by decide : 0 < 64) e
  omega
end Nv

set_option maxRecDepth 100000
set_option maxHeartbeats 4000000
namespace Nv
open PySem PySem.Spec PyProof.Rows L2 LamX
/-- what a lambda's defaults are: none, or one int in a tuple of its own -/
def DefAt (params : Arguments) (dV : Value) (i : Int) (H : Hp) (fs : List Addr) (h : Heap) : Prop :=
  (params.defaults = [] ∧ dV = .none) ∨ (params.defaults ≠ [] ∧ ∃ (t : Addr) (tk : Tok), dV = .ref t ∧ h.get? t = some (PySem.W.kdv_tup [.int i tk]) ∧ H t = none ∧ t ∉ fs)
section
variable {X : Cx} {pins : List (Addr × Obj)} {σ : L2.St} {H : Hp} {s : Shared}
theorem out_of_frames (I : Inv X pins σ H s) {f : Addr} (hf : s.heap.objs.size ≤ f) : f ∉ frs X.stack := fun z => by
  rcases List.mem_cons.mp (I.stkSub _ z) with e | e
  · have l1 := I.lt
    rw [← e] at l1
    exact Nat.lt_irrefl _ (Nat.lt_of_lt_of_le l1 hf)
  · exact I.nofs hf e
/-- the function object is laid, its code object new or found -/
theorem lam_tail {T : List (Addr × Str)} {c P : Addr} {params : Arguments} {body : Expr} {scope : Scope} {pos : Pos} {dV : Value} {E : Value → Shared → Prop} {Q : Value → Shared → Prop} (I : Inv X pins σ H s) (TB : TabB X.base X.mg c P) (hcode : X.env.code = .ref c)
    (hm : (P, X.env.qual ++ "<lambda>") ∈ T) (hu : ∀ p ∈ T, p.1 = P → p.2 = X.env.qual ++ "<lambda>") (hT : Tabs T H) (hfree : ∀ y ∈ scope.names, y.2 = .free → ∃ c, X.env.cells.lookup y.1 = some c)
    (h : ∀ (f c' : Addr) (doc pm ctv : Value) (H1 : Hp) (s' : Shared), Inv X pins σ H1 s' → ExtN H H1 → (∀ b o, s.heap.get? b = some o → H b = none → s'.heap.get? b = some o ∧ H1 b = none) → Tabs T H1 →
      s'.heap.get? f = some (PySem.W.kdv_obj "<lambda>" (X.env.qual ++ "<lambda>") params (.expr body) scope (cloFrom X.env.cells scope.names []) dV doc pm c' ctv) → H1 f = none → f ∉ frs X.stack → H1 c' = some (CodeO c' (X.env.qual ++ "<lambda>")) → Q (.ref f) s') :
    wpAny (model X.prog X.w) X.A (makeTail "<lambda>" (X.env.qual ++ "<lambda>") params (.expr body) scope X.env dV .none none pos pos.line) Q E s := by
  obtain ⟨ps, hP, ht, ha⟩ := hT _ hm
  have bP : s.heap.BuiltinsAt X.mg P := TB.bm.keeps I.bk
  have tabAt : s.heap.get? P = some { cls := .none, data := .fields ps } := I.hok P _ hP
  cases hc : codeAmong pos ps.toList with
  | none =>
    refine PySem.W.kdv_makeTail (mg := X.mg) (c := c) (P := P) (ps := ps) (closure_ok hfree) I.ok.glob (I.mod.glob.keeps I.bk) hcode (TB.code.keeps I.bk) tabAt ht hc TB.gP bP fun c' ctv doc h' tk hx hge hlt hrec htb => ?_
    obtain ⟨c2, oc, vs, t, e2, hoc, hd, hv⟩ := hrec
    cases e2
    have big : s.heap.objs.size ≤ h'.objs.size := Nat.le_trans hge (Nat.le_of_lt hlt)
    have nC : H c' = none := I.hok.fresh hge
    generalize hfo : PySem.W.kdv_obj "<lambda>" (X.env.qual ++ "<lambda>") params (.expr body) scope (cloFrom X.env.cells scope.names []) dV doc ((X.mg "__name__").getD .none) c' ctv = fo
    have nf : fo.isFreed = false := by rw [← hfo]; rfl
    have I1 := inv_table (t' := tk) (more := #[rawInt pos.line, rawInt pos.col, .ref c']) (h' := h'.push fo) I hP (fun b o nb e => Heap.get?_push_of_some _ (hx b o nb e)) (Heap.get?_push_of_some _ htb) hge ⟨oc, vs, t, Heap.get?_push_of_some _ hoc, hd, hv⟩
    have ext : ExtN H (upd (upd H P (.tbl (ps ++ #[rawInt pos.line, rawInt pos.col, .ref c']))) c' (CodeO c' (X.env.qual ++ "<lambda>"))) := fun b o e n => by
      rw [upd_ne (ne_of_none e nC), upd_ne (fun z => n ps (Option.some.inj (e.symm.trans (by rw [z]; exact hP))))]
      exact e
    have eL : (ps ++ #[rawInt pos.line, rawInt pos.col, .ref c']).toList = ps.toList ++ [rawInt pos.line, rawInt pos.col, .ref c'] := by simp
    refine h h'.objs.size c' doc ((X.mg "__name__").getD .none) ctv _ _ I1 ext (fun b o e n => ?_) (fun p hp => ?_) (by rw [hfo]; exact Heap.get?_push_size _ nf) ?_ (out_of_frames I big) upd_same
    · have nbP : b ≠ P := fun z => by rw [z, hP] at n; cases n
      have nbc : b ≠ c' := fun z => by
        rw [z] at e
        exact Nat.lt_irrefl _ (Nat.lt_of_lt_of_le (Heap.lt_size e) hge)
      exact ⟨Heap.get?_push_of_some _ (hx b o nbP e), by rw [upd_ne nbc, upd_ne nbP]; exact n⟩
    · by_cases hb : p.1 = P
      · rw [hu p hp hb, hb]
        refine ⟨_, by rw [upd_ne (ne_of_none hP nC), upd_same], by rw [eL]; exact PySem.TriplesOk_snoc _ _ _ _ ht, fun p' cv hcv => ?_⟩
        rw [eL] at hcv
        rcases among_app _ ht hcv with z | z
        · obtain ⟨c0, e1, e2⟩ := ha p' cv z
          exact ⟨c0, e1, ext _ _ e2 codeO_ne⟩
        · exact ⟨c', z, upd_same⟩
      · obtain ⟨ps', a1, a2, a3⟩ := hT p hp
        refine ⟨ps', by rw [upd_ne (ne_of_none a1 nC), upd_ne hb]; exact a1, a2, fun p' cv hcv => ?_⟩
        obtain ⟨c0, e1, e2⟩ := a3 p' cv hcv
        exact ⟨c0, e1, ext _ _ e2 codeO_ne⟩
    · have n1 : h'.objs.size ≠ c' := Nat.ne_of_gt hlt
      have n2 : h'.objs.size ≠ P := Nat.ne_of_gt (Nat.lt_of_lt_of_le (Heap.lt_size tabAt) big)
      rw [upd_ne n1, upd_ne n2]
      exact I.hok.fresh big
  | some cv =>
    obtain ⟨c', e, hco⟩ := ha pos cv hc
    subst e
    refine PySem.W.kdv_makeTailHit (mg := X.mg) (c := c) (P := P) (ps := ps) (closure_ok hfree) I.ok.glob (I.mod.glob.keeps I.bk) hcode (TB.code.keeps I.bk) tabAt ht hc bP fun ctv doc h' tk hx big => ?_
    generalize hfo : PySem.W.kdv_fn "<lambda>" (X.env.qual ++ "<lambda>") params (.expr body) scope (cloFrom X.env.cells scope.names []) dV doc ((X.mg "__name__").getD .none) (.ref c') ctv = fo
    have I1 : Inv X pins σ H { s with heap := h'.push { cls := .type "function", data := .func fo }, toks := tk } := I.kept fun b o e => Heap.get?_push_of_some _ (hx b o e)
    refine h h'.objs.size c' doc ((X.mg "__name__").getD .none) ctv H _ I1 (ExtN.refl H) (fun b o e n => ⟨Heap.get?_push_of_some _ (hx b o e), n⟩) hT ?_ (I.hok.fresh big) (out_of_frames I big) hco
    rw [← hfo]
    exact Heap.get?_push_size _ rfl
/-- a lambda of no parameters, or of one with a written int as default -/
theorem lam_makeD {T : List (Addr × Str)} {c P : Addr} {params : Arguments} {body : Expr} {scope : Scope} {pos : Pos} {E : Value → Shared → Prop} {Q : Value → Shared → Prop} {i : Int} (I : Inv X pins σ H s) (TB : TabB X.base X.mg c P) (hcode : X.env.code = .ref c)
    (hm : (P, X.env.qual ++ "<lambda>") ∈ T) (hu : ∀ p ∈ T, p.1 = P → p.2 = X.env.qual ++ "<lambda>") (hT : Tabs T H) (hd : params.defaults = [] ∨ ∃ j p0, params.defaults = [.Constant (.int i) j p0]) (hk0 : params.kw_defaults = [])
    (hfree : ∀ y ∈ scope.names, y.2 = .free → ∃ c, X.env.cells.lookup y.1 = some c)
    (h : ∀ (f c' : Addr) (dV doc pm ctv : Value) (H1 : Hp) (s' : Shared), Inv X pins σ H1 s' → ExtN H H1 → Tabs T H1 → DefAt params dV i H1 (frs X.stack) s'.heap →
      s'.heap.get? f = some (PySem.W.kdv_obj "<lambda>" (X.env.qual ++ "<lambda>") params (.expr body) scope (cloFrom X.env.cells scope.names []) dV doc pm c' ctv) → H1 f = none → f ∉ frs X.stack → H1 c' = some (CodeO c' (X.env.qual ++ "<lambda>")) → Q (.ref f) s') :
    wpAny (model X.prog X.w) X.A (eval (.Lambda params body scope pos) X.env) Q E s := by
  rcases hd with hd | ⟨j, p0, hd⟩
  · refine PySem.W.kla_eval (by rw [defaultsOf_eq, hd, hk0]; rfl) ?_
    rw [makeFunction_eq]
    simp only [List.zip_nil_right, List.filterMap_nil, List.isEmpty_nil, if_true, pure_bind]
    exact lam_tail I TB hcode hm hu hT hfree fun f c' doc pm ctv H1 s' I1 e k T1 hf hn hfr hco => h f c' .none doc pm ctv H1 s' I1 e T1 (.inl ⟨hd, rfl⟩) hf hn hfr hco
  · refine PySem.W.kdv_lam (by rw [hd]; rfl) hk0 ?_
    rw [hd]
    refine PySem.W.kdv_all1 (wpAny_Constant_int (PySem.W.kdv_all0 ?_))
    rw [makeFunction_eq]
    simp only [List.zip_nil_right, List.filterMap_nil, List.isEmpty_nil, if_true, pure_bind, List.isEmpty_cons, Bool.false_eq_true, if_false]
    refine wpAny_bind (wpAny_newTextTuple ?_)
    have I0 : Inv X pins σ H { s with toks := s.toks + 1 } := I.tok _
    have I1 : Inv X pins σ H { s with heap := s.heap.push (PySem.W.kdv_tup [.int i s.toks]), toks := s.toks + 1 } := I.kept fun b o e => Heap.get?_push_of_some _ e
    have fr := out_of_frames I (Nat.le_refl _)
    refine lam_tail I1 TB hcode hm hu hT hfree fun f c' doc pm ctv H1 s' I2 e k T1 hf hn hfr hco => ?_
    obtain ⟨g1, g2⟩ := k s.heap.objs.size _ (Heap.get?_push_size _ rfl) (I.hok.fresh (Nat.le_refl _))
    exact h f c' (.ref s.heap.objs.size) doc pm ctv H1 s' I2 e T1 (.inr ⟨by rw [hd]; simp, _, _, rfl, g1, g2, fr⟩) hf hn hfr hco

/-- the lambda's names: captured ones, globals, and parameters that the maker doesn't name -/
structure LamD (N : List Str) (sc scope : Scope) : Prop where
  kind : scope.kind = .function
  co : scope.isCoroutine = false
  gen : scope.isGenerator = false
  own : ∀ y ∈ scope.names, y.2 ≠ .cell ∧ (y.2 = .local → y.1 ∉ N)
  free : ∀ y ∈ scope.names, y.2 = .free → sc.names.lookup y.1 = some .cell ∨ sc.names.lookup y.1 = some .free
def lamDB (N : List Str) (sc scope : Scope) : Bool :=
  decide (scope.kind = .function) && !scope.isCoroutine && !scope.isGenerator && scope.names.all fun y => !decide (y.2 = .cell) && (!decide (y.2 = .local) || !decide (y.1 ∈ N)) && (!decide (y.2 = .free) || decide (sc.names.lookup y.1 = some .cell) || decide (sc.names.lookup y.1 = some .free))
theorem lamD_by {N : List Str} {sc scope : Scope} (h : lamDB N sc scope = true) : LamD N sc scope := by
  unfold lamDB at h
  simp only [Bool.and_eq_true, Bool.or_eq_true, Bool.not_eq_true', decide_eq_true_eq, decide_eq_false_iff_not, List.all_eq_true] at h
  obtain ⟨⟨⟨h1, h2⟩, h3⟩, h4⟩ := h
  refine ⟨h1, h2, h3, fun y hy => ⟨(h4 y hy).1.1, fun e => ?_⟩, fun y hy e => ?_⟩
  · rcases (h4 y hy).1.2 with z | z
    · exact absurd e z
    · exact z
  · rcases (h4 y hy).2 with (z | z) | z
    · exact absurd e z
    · exact .inl z
    · exact .inr z
theorem LamD.has {scope : Scope} (L : LamD X.N X.env.scope scope) (ok : X.Ok) : ∀ y ∈ scope.names, y.2 = .free → ∃ c, X.env.cells.lookup y.1 = some c := fun y hy e => by
  rcases L.free y hy e with k | k
  · exact ok.has _ (.inl k)
  · exact ok.has _ (.inr k)
variable {HZ : Hp} {s1 : Shared}
theorem lam_startD {A : Around} {outer : List Env} {E : XK} {scope : Scope} {f c' : Addr} {h₁ : Heap} {tk : Nat} {mm : Str → Option Value} (I : Inv X pins σ H s) (L : LamD X.N X.env.scope scope) (e0 : Env0 X.prog X.w X.K X.mg X.base A outer s1 HZ) (cool : A.handled = none)
    (un : Un (frs X.stack) [] H HZ s.heap s1.heap) (hns : h₁.Ns s1.heap.objs.size mm) (kp : ∀ b o, s1.heap.get? b = some o → h₁.get? b = some o) :
    Inv (lamCx X A outer s1 HZ E scope f c') [] σ HZ { s1 with heap := h₁, toks := tk } := by
  have hfree := L.has I.ok
  have cm : ∀ {y c}, (cloFrom X.env.cells scope.names []).lookup y = some c → X.env.cells.lookup y = some c := fun {y c} e => by
    rcases cloFrom_mem (PySem.mem_of_lookup e) with hm | ⟨h1, h2⟩
    · cases hm
    · obtain ⟨c1, hc⟩ := hfree _ h1 rfl
      have hc : X.env.cells.lookup y = some c1 := hc
      have e2 : c = c1 := by
        rw [h2, hc] <;> rfl
      rw [e2]
      exact hc
  have look : ∀ {y}, scope.names.lookup y = some .free → ∃ c, (cloFrom X.env.cells scope.names []).lookup y = some c := fun {y} hl => by
    have hy : (y, NameKind.free) ∈ scope.names := PySem.mem_of_lookup hl
    exact mem_lookup (cloFrom_has (cells := X.env.cells) (acc := []) hy)
  have cellK : ∀ {c : Addr} {v : Option Value}, H c = none → s.heap.IsCell c v → h₁.IsCell c v := fun {c v} n ⟨o, ho, hd⟩ => by
    obtain ⟨sl, q⟩ := un.any ho n (by simp)
    exact ⟨_, kp _ _ q, hd⟩
  have noA : ∀ b : Addr, b ∉ (lamCx X A outer s1 HZ E scope f c').ex := fun b z => absurd (show b ∈ ([] : List Addr) from z) (by simp)
  refine ⟨⟨e0.mod, L.kind, rfl, rfl, Nat.le_refl _, fun y z c e1 e2 => I.ok.inj y z c (cm e1) (cm e2), fun y hy => ?_, fun y c z _ => ?_, fun _ => cool, Around.frames_deeper e0.frames, .inr ⟨rfl, rfl⟩, fun b z => absurd z (noA b), e0.bs, e0.bsz, fun b _ _ => noA b,
      fun b z => absurd z (noA b), e0.funs, e0.frf⟩,
    rfl, e0.bare, Un.kept kp, ⟨_, hns, fun i y v e1 e2 e3 => ?_⟩, fun y c e => ?_, e0.hok.fresh (Nat.le_refl _), fun y c e => ?_, fun q hq => absurd (show q ∈ ([] : List (Addr × Obj)) ++ [] from hq) (by simp), e0.hok.kept kp, I.len⟩
  · have hy : scope.names.lookup y = some .cell ∨ scope.names.lookup y = some .free := hy
    rcases hy with hy | hy
    · exact absurd rfl (L.own _ (PySem.mem_of_lookup hy)).1
    · exact look hy
  · have z : false = true := z
    cases z
  · have e3 : Vis scope y := e3
    rcases e3 with k | k | k
    · exact absurd (List.mem_of_getElem? e1) ((L.own _ (PySem.mem_of_lookup k)).2 rfl)
    · exact absurd rfl (L.own _ (PySem.mem_of_lookup k)).1
    · obtain ⟨m, hn, hl⟩ := I.loc
      have hvis : Vis X.env.scope y := (L.free _ (PySem.mem_of_lookup k) rfl).elim (fun k => .inr (.inl k)) (fun k => .inr (.inr k))
      obtain ⟨w', r, q⟩ := hl i y v e1 e2 hvis
      obtain ⟨c2, h2⟩ := look k
      refine ⟨w', r, .inr ⟨.inr k, c2, h2, ?_⟩⟩
      have c1 := cm h2
      rcases q with ⟨k', _⟩ | ⟨_, c3, e', z⟩
      · have k' : X.env.scope.names.lookup y = some .local := k'
        rcases L.free _ (PySem.mem_of_lookup k) rfl with k2 | k2 <;> rw [show X.env.scope.names.lookup y = _ from k2] at k' <;> cases k'
      · rw [c1] at e'
        cases e'
        exact cellK (I.freeC y _ c1) z
  · obtain ⟨w', z⟩ := I.cell y c (cm e)
    exact ⟨w', cellK (I.freeC y c (cm e)) z⟩
  · obtain ⟨v, o, ho, hd⟩ := I.cell y c (cm e)
    exact un.free c o ho (I.freeC y c (cm e)) (by simp)
/-- how the lambda binds nothing -/
def LamBinds (params : Arguments) (body : Expr) (scope : Scope) (i : Int) : Prop :=
  ∀ (q : Str) (cl : List (Str × Addr)) (dV doc pm cv ctv : Value) (s : Shared), ((params.defaults = [] ∧ dV = .none) ∨ (params.defaults ≠ [] ∧ ∃ (t : Addr) (tk : Tok), dV = .ref t ∧ s.heap.get? t = some (PySem.W.kdv_tup [.int i tk]))) →
    ∃ binds, BindsTo s (PySem.W.kdv_fn "<lambda>" q params (.expr body) scope cl dV doc pm cv ctv) ⟨[], []⟩ binds ∧ ∀ y ∈ binds, scope.names.lookup y.1 = some .local
/-- x(), in the def that got the lambda -/
theorem pe_actD {CXg : CXT} {Eg : XK} {Ng : List Str} {qg : Str} {sg : Scope} {g f c' : Addr} {cdg dV doc pm ctv : Value} {params : Arguments} {body : Expr} {scope : Scope} {k j : Nat} {a : Str} {pn : List (Addr × Obj)} {xe : Value → Shared → Prop} {W : WX} {E : XK} {tb : TE} {p1 p2 : Pos} {i : Int}
    (I : Inv X pins σ H s) (L : LamD X.N X.env.scope scope) (D : DefAt params dV i H (frs X.stack) s.heap) (hf : s.heap.get? f = some (PySem.W.kdv_obj "<lambda>" (X.env.qual ++ "<lambda>") params (.expr body) scope (cloFrom X.env.cells scope.names []) dV doc pm c' ctv)) (hfn : H f = none) (hfr : f ∉ frs X.stack)
    (B : LamBinds params body scope i)
    (tk : Takes ((cxOf CXg X.prog X.w X.K X.mg X.base Ng qg sg g cdg X.A X.stack s H Eg).tr pn xe) W) (hW : ∀ cls d σ' H', E cls d H' → W cls d σ' H') (hr : Room (k + 1) (X.A.deeper (envOfC qg sg s.heap.objs.size g cdg)))
    (hbody : ∀ (A : Around) (outer : List Env) (s : Shared) (H : Hp), Room k (A.deeper (lamEnv X scope s.heap.objs.size f c')) → PE (lamCx X A outer s H E scope f c') body tb)
    (hN : Ng[j]? = some a) (hv : Vis sg a) (hd : (a == ("__debug__" : Str)) = false := by decide) (hcd : (a == ("__classdict__" : Str)) = false := by decide) :
    PE ((cxOf CXg X.prog X.w X.K X.mg X.base Ng qg sg g cdg X.A X.stack s H Eg).tr pn xe) (.Call (.Name a p1) [] [] p2)
      (fun σZ HZ Q => σZ[j]? = some (some (.ref f)) ∧ HZ c' = some (CodeO c' (X.env.qual ++ "<lambda>")) ∧ tb σ HZ Q) := by
  refine ⟨fun pinsZ sZ σZ HZ Q IZ h => ?_⟩
  obtain ⟨hs, hc, ht⟩ := h
  refine wpAny_Call_Name_kw (thn ((pe_var (pos := p1) (i := j) hN hv hd hcd).run pinsZ sZ σZ HZ (fun v H1 => v = .ref f ∧ H1 = HZ) IZ ⟨.ref f, hs, rfl, rfl⟩) fun u s1 ⟨v, H1, I1, r1, q1⟩ => ?_)
  obtain ⟨ev, eH⟩ := q1
  subst ev
  rw [eH] at I1
  obtain rfl : u = Value.ref f := r1
  have of1 : s1.heap.get? f = some (PySem.W.kdv_obj "<lambda>" (X.env.qual ++ "<lambda>") params (.expr body) scope (cloFrom X.env.cells scope.names []) dV doc pm c' ctv) := I1.base.keep f _ hf hfn hfr (fun z => nomatch (show f ∈ ([] : List Addr) from z))
  refine PySem.W.callWith_F0 ⟨_, _, _, _, of1⟩ ?_
  have un : Un (frs X.stack) [] H HZ s.heap s1.heap := I1.base
  obtain ⟨⟨oc, vs, t, hoc, hdc, hvc⟩, _, _⟩ := I1.hok c' _ hc
  obtain ⟨binds, hB, hloc⟩ := B (X.env.qual ++ "<lambda>") (cloFrom X.env.cells scope.names []) dV doc pm (.ref c') ctv s1 (by
    rcases D with d | ⟨d, t, tk, e, g1, g2, g3⟩
    · exact .inl d
    · exact .inr ⟨d, t, tk, e, un.keep t _ g1 g2 g3 (by simp)⟩)
  have rc : codeAny (model X.prog X.w) (X.A.deeper (envOfC qg sg s.heap.objs.size g cdg)) (.call (.ref f) ⟨[], []⟩) (CR (L2.CX X.prog X.w) (envOfC qg sg s.heap.objs.size g cdg :: X.stack) X.prog X.w HZ s1 Q E) s1 := by
    refine PySem.W.kla_callFunE hr.depth of1 rfl L.co L.gen rfl ⟨c', oc, vs, t, rfl, hoc, hdc, hvc⟩ (hB _ _ _ _ ?_)
    refine wpAny_newFunctionEnv (fun y hy => (L.own y hy).1) hloc (fun h₁ hns hsb => ⟨I1.nolimit.fresh _ hsb, ?_⟩) L.kind
    show codeAny _ _ (.expr body (lamEnv X scope s1.heap.objs.size f c')) _ _
    have kp : ∀ b o, s1.heap.get? b = some o → h₁.get? b = some o := fun b o e => hsb.extBut b o (Nat.ne_of_lt (Heap.lt_size e)) (Heap.get?_push_of_some _ e)
    have J : Inv (lamCx X (X.A.deeper (envOfC qg sg s.heap.objs.size g cdg)) (envOfC qg sg s.heap.objs.size g cdg :: X.stack) s1 HZ E scope f c') [] σ HZ { s1 with heap := h₁, toks := s1.toks + binds.length } :=
      lam_startD I L I1.env0 hr.hd un hns kp
    refine PySem.W.kla_codeExpr (wpAny_mono ((hbody _ _ s1 HZ (hr.deeper _)).run [] _ _ HZ Q J ht) (fun v s' hq => ?_) fun e s' hq => hq)
    obtain ⟨w', H', J', rv, q⟩ := hq
    exact ⟨w', H', J'.os, J'.bare, J'.base, J'.hok, rv, q⟩
  have hx : Passes (L2.CX X.prog X.w) ((cxOf CXg X.prog X.w X.K X.mg X.base Ng qg sg g cdg X.A X.stack s H Eg).tr pn xe) E := passes_call tk hW
  refine wpAny_call (codeAny_mono rc fun r s' hq => ?_)
  cases r with
  | error e => exact hx pinsZ σZ HZ s1 e s' I1 hq
  | ok fl =>
    cases fl with
    | ret u => exact I1.after hq
    | next => exact False.elim hq
    | brk => exact False.elim hq
    | cont => exact False.elim hq
end

section
variable {X : Cx}
/-- x(lambda: body), x(lambda a=0: body): x's body is told by GivesTo, what the lambda's body asks by t -/
theorem pe_heard {T : List (Addr × Str)} {TT : (XK → Hp → VK → Prop) → Hp → VK → Prop} {x a : Str} {g c P : Addr} {k : Nat} {pg : Arguments} {bg : List Stmt} {sg : Scope} {dV kV doc pm cdv ct oc : Value} {an od : Option Addr} {osl : Array (Option Value)} {Ng : List Str}
    {params : Arguments} {body : Expr} {scope : Scope} {t : XK → TE} {p lpos pos : Pos} {i : Int} (hg : Gl X x) (hm : X.mg x = some (.ref g)) (hk : PySem.W.keepIn X.K (.ref g) = true)
    (lk : X.K.lookup g = some ⟨oc, od, .func (PySem.W.fnOf x x pg bg sg dV kV doc pm an cdv ct), osl⟩) (hcg : PySem.W.codeIn X.K cdv x = true) (hb : L2.Binds X.K (PySem.W.fnOf x x pg bg sg dV kV doc pm an cdv ct) [a] []) (Sg : FnScope Ng [a] sg) (hNg : Ng[0]? = some a) (hva : Vis sg a)
    (hG : GivesTo X Ng x sg g cdv bg a (X.env.qual ++ "<lambda>") TT)
    (TB : TabB X.base X.mg c P) (hcode : X.env.code = .ref c) (hmT : (P, X.env.qual ++ "<lambda>") ∈ T) (hu : ∀ p ∈ T, p.1 = P → p.2 = X.env.qual ++ "<lambda>") (hr : Room (k + 2) X.A) (L : LamD X.N X.env.scope scope)
    (hd0 : params.defaults = [] ∨ ∃ j p0, params.defaults = [.Constant (.int i) j p0]) (hk0 : params.kw_defaults = []) (B : LamBinds params body scope i)
    (hbody : ∀ (A : Around) (outer : List Env) (s : Shared) (H : Hp) (E : XK) (f c' : Addr), Room k (A.deeper (lamEnv X scope s.heap.objs.size f c')) → PE (lamCx X A outer s H E scope f c') body (t E))
    (hdb : (x == ("__debug__" : Str)) = false := by decide) (hd : (a == ("__debug__" : Str)) = false := by decide) (hcd : (a == ("__classdict__" : Str)) = false := by decide) :
    PE X (.Call (.Name x p) [.Lambda params body scope lpos] [] pos) (tLam T TT t) := by
  refine ⟨fun pins s σ H Q I h => ?_⟩
  obtain ⟨hT, h⟩ := h
  refine wpAny_Call_Name_kw (ld_glob I hg hm ?_ hdb)
  refine PySem.W.callWith_K (h₀ := X.base) I.ok.mod.kin hk ?_ (by rfl) (by rfl)
  show wpAny _ _ (spliced ((false, eval (.Lambda params body scope lpos) X.env) :: backTo pos (starEach [] X.env))) _ _ s
  refine Calls.spliced_cons (lam_makeD I TB hcode hmT hu hT hd0 hk0 (L.has I.ok) fun f c' dV' doc' pm' ctv H1 s' I1 eN T1 D hf hfn hfr hco => ?_)
  refine Calls.spliced_nil ⟨I1.kIn, ?_⟩
  have rc : codeAny (model X.prog X.w) X.A (.call (.ref g) ⟨[.ref f], []⟩) (CR C8.CX0 X.stack X.prog X.w H1 s' Q C8.E0) s' := by
    refine run_ofS (N := Ng) (ps := [a]) (us := [.ref f]) (vs := [.ref f]) lk hcg Sg hr I1.env0 (hb s' [.ref f] I1.kIn rfl) (.cons rfl .nil) rfl fun hr' => ?_
    obtain ⟨t', ht', hq'⟩ := hG f c' s' H1 Q (fun E H' Q' => t E σ H' Q') (fun W pn xe E p1 p2 tk hW => pe_actD (j := 0) I1 L D hf hfn hfr B tk hW hr' (fun A outer s H hr2 => hbody A outer s H E f c' hr2) hNg hva hd hcd) hco (h H1 eN T1)
    exact ⟨t', ht'.nox, hq'⟩
  refine wpAny_call (codeAny_mono rc fun r s2 hq => ?_)
  cases r with
  | error e => exact (show False from hq).elim
  | ok fl =>
    cases fl with
    | ret u => exact I1.after hq
    | next => exact False.elim hq
    | brk => exact False.elim hq
    | cont => exact False.elim hq
end
end Nv

set_option maxRecDepth 100000
set_option maxHeartbeats 4000000
namespace Nv
open PySem PySem.Spec PyProof.Rows L2 LamX
/-- at a: an exception of the class cls, its dict at d, that a handler has let go and a name still holds -/
def exC (cls : Value) (a : Addr) (d : Option Addr) : HO := .ext fun h => ∃ (oe : Obj) (vs : Array Value), h.get? a = some oe ∧ Zc cls d oe ∧ oe.data = .fields vs
theorem exC_at {P : Program} {w : World} {H : Hp} {h : Heap} {a : Addr} {cls : Value} {d : Option Addr} (ok : HOk P w H h) (e : H a = some (exC cls a d)) : ∃ (oe : Obj) (vs : Array Value), h.get? a = some oe ∧ Zc cls d oe ∧ oe.data = .fields vs :=
  (show ObjOk P w H h a (.ext fun h => ∃ (oe : Obj) (vs : Array Value), h.get? a = some oe ∧ Zc cls d oe ∧ oe.data = .fields vs) from ok a _ e).1
section
variable {X : Cx} {pins : List (Addr × Obj)} {σ : L2.St} {H : Hp} {s : Shared}
/-- an object that came since the entry, not tracked, is tracked from here on -/
theorem track {a : Addr} {oe : Obj} {vs : Array Value} {cls : Value} {d : Option Addr} (I : Inv X pins σ H s) (g : s.heap.get? a = some oe) (z : Zc cls d oe) (dt : oe.data = .fields vs) (n : H a = none) (new : X.s_0.heap.get? a = none) (nl : a ≠ X.env.locals)
    (np : ∀ p ∈ X.pn ++ pins, p.1 ≠ a) : Inv X pins σ (upd H a (exC cls a d)) s := by
  have up : ∀ {b : Addr} {u : HO}, H b = some u → upd H a (exC cls a d) b = some u := fun {b u} e => by
    rw [upd_ne (ne_of_none e n)]
    exact e
  have no : ∀ {b : Addr}, H b = none → b ≠ a → upd H a (exC cls a d) b = none := fun {b} e nb => by
    rw [upd_ne nb]
    exact e
  refine ⟨I.ok, I.os, I.bare, ⟨I.base.keep, I.base.slot, fun b o e nb x => ?_, I.base.there, fun b xs e => up (I.base.tups b xs e), fun b o u e => up (I.base.frzs b o u e), fun b ps e => ?_⟩, I.loc, I.cell, no I.free nl.symm, fun x c e => ?_, fun p hp => ?_, fun b u e => ?_, I.len⟩
  · refine no (I.base.free b o e nb x) fun q => ?_
    rw [q, new] at e
    cases e
  · obtain ⟨m, q⟩ := I.base.tbls b ps e
    exact ⟨m, up q⟩
  · refine no (I.freeC x c e) fun q => ?_
    obtain ⟨v, o, ho, hd⟩ := I.cell x c e
    rw [q, g] at ho
    cases ho
    rw [dt] at hd
    cases hd
  · obtain ⟨q1, q2, q3⟩ := I.pin p hp
    exact ⟨q1, no q2 (np p hp), q3⟩
  · by_cases q : b = a
    · subst q
      rw [upd_same] at e
      cases e
      exact ⟨⟨oe, vs, g, z, dt⟩, ⟨oe, g⟩, fun h1 h2 ⟨o, v, q1, q2⟩ k => ⟨o, v, k o q1, q2⟩⟩
    · rw [upd_ne q] at e
      exact (I.hok b u e).stay (fun _ _ _ y => y) (fun c y => up y) fun c xs y => up y

/-- what 'except x as n' wishes where the error is still held behind its suite -/
def wHeld (K : PySem.W.Frag) (c : Value) (i : Nat) (ts : Addr → Value → Option Addr → TS) (Wo : WX) (D : Ends) : WX := fun cls d σ H =>
  ∃ b, PySem.W.exmOne K cls c = some b ∧ (b = true → ∀ a, H a = none → ts a cls d { nx := fun σ' H' => H' a = none → D.nx (σ'.set i none) (upd H' a (exC cls a d)), rt := fun _ _ => False } (σ.set i (some (.ref a))) H) ∧ (b = false → Wo cls d σ H)
theorem ps_try_held {x n : Str} {c : Value} {i : Nat} {body suite : List Stmt} {b₀ : Stmt} {np pos pos' : Pos} {tb : WX → TS} {ts : Addr → Value → Option Addr → TS} {Wo : WX}
    (stk : X.stack = X.env :: X.outer) (frm : X.env.frame = some X.env.locals) (nx : X.ex = []) (nd : X.N.Nodup) (ati : X.N[i]? = some n) (lo : X.env.kindOf n = some .local) (nam : Names X x c) (out : Takes X Wo)
    (hb : ∀ (W : WX) (pn : List (Addr × Obj)) (xe : Value → Shared → Prop), Takes (X.tr pn xe) W → PassesOwn (model X.prog X.w) X.A X.env xe → PSs (X.tr pn xe) body (tb W))
    (hsu : ∀ (a : Addr) (oe : Obj) (cls : Value) (d : Option Addr) (pn : List (Addr × Obj)), Zc cls d oe → (∃ vs, oe.data = .fields vs) → PSs (X.suite a ((a, oe) :: pn)) (b₀ :: suite) (ts a cls d)) :
    PS X (.Try body [.ExceptHandler (some (.Name x np)) (some n) (b₀ :: suite) pos'] [] [] pos) (fun D σ H => tb (wHeld X.K c i ts Wo D) D σ H) := by
  refine ⟨fun pins s σ H D I q0 => ?_⟩
  have ok := I.ok
  have afr : X.A.frames = some (X.env :: X.outer) := by rw [ok.frames, stk]
  have nL0 : Loc X.env.scope n := .inl lo
  refine wpAny_Try_except ?_
  refine wpAny_mono ((hb (wHeld X.K c i ts Wo D) (X.pn ++ pins) (fun e t1 => wpAny (model X.prog X.w) X.A (noteFrame e X.env) (fun _ t2 => wpAny (model X.prog X.w) X.A (setFlight e none) (fun _ t3 =>
    wpAny (model X.prog X.w) X.A (handleBy e X.env [.ExceptHandler (some (.Name x np)) (some n) (b₀ :: suite) pos']) (SP X pins D) X.xe t3) X.xe t2) X.xe t1) (fun u t ar => ?_) PassesOwn.looking).run [] s σ H D (I.toTry _) q0) (fun fl t q => ?_) (fun e t q => q)
  · obtain ⟨a, B, t0, pins', σ', H', cls, d, rfl, IT, gr, us, sk, fa, eo, gb, b, em, yes, no⟩ := ar
    have I0 : Inv X pins σ' H' t0 := IT.ofTry ok
    have sk0 : Sky B (X.env :: X.outer) a (Zc cls d) X.env.locals t.heap := by rw [← stk]; exact sk
    show wpAny (model X.prog X.w) X.A (noteFrame (.ref a) X.env) _ _ _
    refine Sky.land Zc.steady afr frm sk0 fun hA fA uA => ?_
    have IA : Inv X pins σ' H' { t with heap := hA } := I0.landed gr fA.1 (us.trans uA) eo gb
    obtain ⟨oA, vA, gA, zA, dA⟩ := fA.there
    have offF : a ∉ frs (X.env :: X.outer) := fun hm => by
      obtain ⟨_, o', e', nd'⟩ := fA.2.2.1.mem hm
      rw [gA] at e'
      cases e'
      exact nd' _ dA
    have offL : a ≠ X.env.locals := fun z => offF (List.mem_filterMap.mpr ⟨X.env, List.mem_cons_self, by rw [frm, z]⟩)
    have offO : a ∉ X.fs := fun hm => by
      obtain ⟨e, he, y⟩ := List.mem_filterMap.mp hm
      exact offF (List.mem_filterMap.mpr ⟨e, List.mem_cons_of_mem _ he, y⟩)
    have not0 : t0.heap.get? a = none := by
      cases y : t0.heap.get? a with
      | none => rfl
      | some o =>
        have z := gr a o y (by rw [stk]; exact offF)
        rw [fA.2.1] at z
        cases z
    have notS : X.s_0.heap.get? a = none := by
      cases y : X.s_0.heap.get? a with
      | none => rfl
      | some o =>
        obtain ⟨o', z⟩ := I0.base.there a o y (by rw [nx]; exact fun z => nomatch z)
        rw [not0] at z
        cases z
    have notP : ∀ p ∈ X.pn ++ pins, p.1 ≠ a := fun p hp z => by
      have y := (I0.pin p hp).1
      rw [z, not0] at y
      cases y
    have SA := IA.suite gA dA fa offL offO
    refine wpAny_handleBy_cons (codeAny_handlers_test ?_) (by intro z; cases z)
    have TL : PySem.W.Looks (model X.prog X.w) hA (typeOf (.ref a)) cls := fun A Q E s k y => wpAny_typeOf_ref (k _ _ gA) (by rw [zA.1]; exact y)
    have ML := PySem.W.exm_one (M := model X.prog X.w) (IA.kIn) TL em
    have asks : ∀ {Q : Value → Shared → Prop} {E : Value → Shared → Prop}, Q c { t with heap := hA } → wpAny (model X.prog X.w) (X.A.mark (some (.ref a))) (eval (.Name x np) X.env) Q E { t with heap := hA } := fun {Q E} y => by
      obtain ⟨n1, n2, n3 | ⟨n3, n4, n5⟩⟩ := nam
      · exact ld_glob (X := X.suite a ((a, oA) :: (X.pn ++ pins))) SA n1 n3 y n2
      · exact ld_blt (X := X.suite a ((a, oA) :: (X.pn ++ pins))) SA n1 n3 n4 y n5 n2
    refine asks (ML.here ?_)
    cases b with
    | true =>
      refine codeAny_handlers_suite_as ?_
      refine HandSPX.lands_againZ fA fun hB fB uB => ?_
      have IB : Inv X pins σ' H' { t with heap := hB } := I0.landed gr fB.1 ((us.trans uA).trans uB) eo gb
      obtain ⟨oB, vB, gB, zB, dB⟩ := fB.there
      have SB := IB.suite gB dB fa offL offO
      refine store_ok (X := X.suite a ((a, oB) :: (X.pn ++ pins))) (v := .ref a) SB nd ati nL0 rfl (fun tC SC => ?_) (.inr lo)
      refine wpAny_mono ((hsu a oB cls d (X.pn ++ pins) zB ⟨_, dB⟩).run [] tC _ H' _ SC (yes rfl a fa)) (fun f tD y => ?_) (fun _ _ z => False.elim z)
      cases f with
      | next =>
        obtain ⟨σD, HD, SD, qD⟩ := y
        have pa := SD.pin (a, oB) (List.mem_append_left _ List.mem_cons_self)
        have JD : Inv X ((a, oB) :: pins) σD HD tD := by
          have z := SD.unsuite (q := (a, oB)) ok
          refine ⟨z.ok, z.os, z.bare, z.base, z.loc, z.cell, z.free, z.freeC, fun p hp => ?_, z.hok, z.len⟩
          rcases List.mem_append.mp hp with m | m
          · exact z.pin p (List.mem_append_left _ m)
          · rcases List.mem_cons.mp m with m | m
            · rw [m]; exact pa
            · exact z.pin p (List.mem_append_right _ m)
        refine gone_ok JD nd ati lo fun tE JE => ?_
        have pE := JE.pin (a, oB) (List.mem_append_right _ List.mem_cons_self)
        have JF : Inv X pins (σD.set i none) HD tE := ⟨JE.ok, JE.os, JE.bare, JE.base, JE.loc, JE.cell, JE.free, JE.freeC, fun p hp => JE.pin p (by
          rcases List.mem_append.mp hp with m | m
          · exact List.mem_append_left _ m
          · exact List.mem_append_right _ (List.mem_cons_of_mem _ m)), JE.hok, JE.len⟩
        exact ⟨_, _, track JF pE.1 zB dB pE.2.1 notS offL notP, qD pE.2.1⟩
      | brk =>
        obtain ⟨_, _, _, qD⟩ := y
        exact False.elim qD
      | cont =>
        obtain ⟨_, _, _, qD⟩ := y
        exact False.elim qD
      | ret u =>
        obtain ⟨_, _, _, _, _, qD⟩ := y
        exact False.elim qD
    | false =>
      show wpAny _ X.A (handleBy (.ref a) X.env []) _ _ _
      refine wpAny_handleBy_nil ?_
      obtain ⟨k1, k2, k3, oe, vs, T, oT, ts', ge, ze, de, le, re⟩ := id fA
      unfold PySem.passOn
      refine wpAny_bind (wpAny_field ge de le ?_)
      rw [if_neg (show ¬ ((Value.ref T == Value.none) = true) from by simp)]
      have fin : wpAny (model X.prog X.w) X.A (setFlight (.ref a) X.env.frame) (fun _ t4 => wpAny (model X.prog X.w) X.A (throw (.ref a) : Sem Flow) (SP X pins D) X.xe t4) X.xe { t with heap := hA } := by
        rw [frm]
        refine HandSPX.setFlight_upZ fA fun hC held uC => wpAny_throw (out _ _ ?_)
        exact ⟨a, B, t0, pins, σ', H', cls, d, rfl, I0, gr, (us.trans uA).trans uC, .inr (.inr (by rw [stk]; exact held)), fa, eo, gb, no rfl⟩
      first
        | exact wpAny_bind (wpAny_pure (wpAny_bind fin))
        | exact wpAny_bind fin
  · cases fl with
    | next =>
      obtain ⟨σ', H', IE, y⟩ := q
      exact wpAny_execs_nil ⟨σ', H', IE.ofTry ok, y⟩
    | brk =>
      obtain ⟨σ', H', IE, y⟩ := q
      exact ⟨σ', H', IE.ofTry ok, y⟩
    | cont =>
      obtain ⟨σ', H', IE, y⟩ := q
      exact ⟨σ', H', IE.ofTry ok, y⟩
    | ret u =>
      obtain ⟨v, σ', H', IE, rv, y⟩ := q
      exact ⟨v, σ', H', IE.ofTry ok, rv, y⟩
end
end Nv

set_option maxRecDepth 100000
set_option maxHeartbeats 4000000
namespace Nv
open PySem PySem.Spec PyProof.Rows L2 LamX
section
open PySem.Calls PySem.W
variable {prog : Program} {w : World} {A : Around} {E : Value → Shared → Prop} {s : Shared} {K : PySem.W.Frag} {x D : Addr} {ox od : Obj}
/-- e.__class__ of an own exception with a dict -/
theorem cls_of_exc {Q : Option Value → Shared → Prop} (C : ExcC K D) (X : K.In s.heap) (I : PySem.W.InstAt s.heap x ox D (some od)) (q : Q (some (.ref D)) { s with toks := s.toks + 1 }) : wpAny (model prog w) A (getAttr? (.ref x) "__class__") Q E s := by
  have found : PySem.W.findObj K D (some od) "__class__" = some (.bind (.builtin "getset_descriptor.__get__") (.builtin "object.__class__")) := PySem.W.findObj_data (by obtain ⟨cd, z, _⟩ := PySem.W.any_some C.hd; rw [z]; rfl) C.ha C.hn C.ht
  obtain ⟨hp, g, d, t, os⟩ := s
  have la := I.type (M := model prog w)
  have lb := PySem.W.looks_findIn (M := model prog w) X C.hg
  have lc := PySem.W.looks_findIn (M := model prog w) X C.hk
  have ld := PySem.W.looks_find (M := model prog w) X I found
  have isExc : PySem.W.Looks (model prog w) hp (isInstance (.ref x) (.type "BaseException")) true := la.andThen (PySem.W.looks_subIn X C.hs)
  have n0 : (false && onTheHeap (Value.builtin "BaseException.__getattribute__")) = false := rfl
  have n1 : (onTheHeap (Value.ref D) && Value.builtin "BaseException.__getattribute__" == Value.builtin "object.__getattribute__") = false := by
    have z : (Value.builtin "BaseException.__getattribute__" == Value.builtin "object.__getattribute__") = false := by decide +kernel
    rw [z]; rfl
  unfold getAttr? getAttrBy? getAttrBy
  refine wpAny_bind (wpAny_mkText (wpAny_bind (wpAny_attempt (wpAny_holding (wpAny_bind (la.at (wpAny_bind (lb.at ?_))))))))
  show wpAny _ _ (if (onTheHeap (Value.ref D) && Value.builtin "BaseException.__getattribute__" == Value.builtin "object.__getattribute__") = true then _ else _) _ _ _
  rw [n1, if_neg Bool.false_ne_true]
  unfold getAttrByItsOwn hookBefore
  refine wpAny_bind ?_
  rw [if_pos (show onTheHeap (Value.ref D) = true from rfl)]
  refine lc.at ?_
  refine wpAny_bind (wpAny_attempt (wpAny_holding ?_))
  unfold callGetattribute
  rw [n0, if_neg Bool.false_ne_true]
  unfold boundAndCalled
  rw [PySem.F.excAttr_ValueError.ga.bind (.ref x)]
  refine wpAny_bind (wpAny_pure ?_)
  show wpAny _ _ (call (.builtin "BaseException.__getattribute__") [.ref x, .str "__class__" t]) _ _ _
  refine wpAny_call (codeAny_call_builtin PySem.F.excAttr_ValueError.ga.plain PySem.F.entry_bexc_ga ?_)
  refine @PySem.W.check_slot (model prog w) _ _ ⟨hp, g, d, t + 1, os⟩ "BaseException.__getattribute__" "BaseException" "__getattribute__" (.ref x) [.str "__class__" t] [] _ (by decide +kernel) (by decide +kernel) isExc (PySem.F.args_bexc_ga (.ref x) (.str "__class__" t)) ?_
  unfold Builtin.«object.__getattribute__»
  refine wpAny_bind (wpAny_of_eq (a := ((Value.ref x : Value), [Value.str "__class__" t])) (by first | rfl | (simp only [slotArgs]; rfl)) ?_)
  refine wpAny_bind (wpAny_pure (wpAny_bind (la.at (wpAny_bind (ld.at ?_)))))
  show wpAny _ _ (holding [Value.builtin "object.__class__"] (call (.builtin "getset_descriptor.__get__") [.builtin "object.__class__", .ref x, .ref D]) >>= ret) _ _ _
  refine wpAny_bind (wpAny_holding (wpAny_call (PySem.W.class_get (s := ⟨hp, g, d, t + 1, os⟩) (ox := ox) (od := some od) X I C.hm ?_)))
  refine wpAny_pure ?_
  show wpAny _ _ (handedOut (.ref D)) _ _ _
  rw [handedOut_of (v := .ref D) rfl]
  first
    | exact wpAny_pure (wpAny_pure q)
    | exact wpAny_pure q
    | exact wpAny_pure (wpAny_bind (wpAny_pure (wpAny_pure q)))
theorem kit_exc (C : ExcC K D) : PySem.W.KitX K (.ref x) (.ref D) (fun h => PySem.W.InstAt h x ox D (some od)) := by
  have Z := PySem.W.handS_kitx_exc (x := x) (ox := ox) C.hg C.hk C.hs C.hd C.ha C.hn C.ht C.hm
  have cl : (PySem.W.clsIn K D).isSome = true := by
    obtain ⟨cd, z, _⟩ := PySem.W.any_some C.hd
    rw [z]; rfl
  refine ⟨fun _ _ _ I => I.type, fun M h X I => ?_, fun h tp dd its n sl X e => ?_, fun X I q => cls_of_exc C X I q⟩
  · unfold PySem.W.clsIn at cl
    split at cl
    · rename_i ho
      intro A1 Q1 E1 t1 k1 q1
      unfold isType loadHead
      exact wpAny_bind (wpAny_loadPart (k1 _ _ (X _ _ ho)) (wpAny_pure q1))
    · cases cl
  · exact Z.ne h tp dd its n sl X e
end
/-- isinstance(x, c): x None or what isinstance knows, or an error that is held -/
def rIsX (K : PySem.W.Frag) : List V → Hp → VK → Prop := fun xs H Q => rIsi K xs H Q ∨
  ∃ (a D dd : Addr) (fs : List (Str × V)) (c : V) (cv : Value) (b : Bool), xs = [.ref a, c] ∧ H a = some (exC (.ref D) a (some dd)) ∧ H dd = some (.xd fs) ∧ ClsV c cv ∧ ExcC K D ∧ PySem.W.kitOne K (.ref D) cv = some b ∧ Q (.bl b) H
section
variable {X : Cx} {pins : List (Addr × Obj)} {σ : L2.St} {H : Hp} {s : Shared}
theorem exc_inst {a D dd : Addr} {fs : List (Str × V)} (I : Inv X pins σ H s) (h1 : H a = some (exC (.ref D) a (some dd))) (h2 : H dd = some (.xd fs)) :
    ∃ (ox od : Obj) (mA : Str → Option Value), PySem.W.InstAt s.heap a ox D (some od) ∧ (∀ f, RelO (fs.lookup f) (mA f)) ∧ ∀ name, PySem.W.lookIn name od = some (mA name) := by
  obtain ⟨oe, vs, g, z, dt⟩ := exC_at I.hok h1
  obtain ⟨mA, ns, rl⟩ := (show ObjOk X.prog X.w H s.heap dd (.xd fs) from I.hok dd _ h2)
  obtain ⟨od, go, lk⟩ := lookIn_ns ns
  exact ⟨oe, od, mA, ⟨g, z.1, by unfold PySem.W.notCls; rw [dt], by rw [z.2]; exact go⟩, rl, lk⟩
theorem call_isX : CallR X (.builtin "isinstance") (rIsX X.K) := by
  intro pins s σ H xs us Q I r h
  rcases h with h | ⟨a, D, dd, fs, c, cv, b, rfl, h1, h2, k, C, e, q⟩
  · exact call_isi pins s σ H xs us Q I r h
  · obtain ⟨u1, u2, rfl, r1, r2⟩ := vals2 r
    have e2 := k.eq r2
    subst e2
    cases (show u1 = Value.ref a from r1)
    obtain ⟨ox, od, mA, J, _⟩ := exc_inst I h1 h2
    exact PySem.W.kia_one (kit_exc C) I.kIn J e (fun z => nomatch z) fun tk => ⟨.bl b, H, I.tok tk, rfl, q⟩
/-- caught.f -/
def tHeldF (K : PySem.W.Frag) (f : Str) (te : TE) : TE := fun σ H Q => te σ H fun x H1 => ∃ (a C dd : Addr) (fs : List (Str × V)) (v : V), x = .ref a ∧ H1 a = some (exC (.ref C) a (some dd)) ∧ H1 dd = some (.xd fs) ∧ XfC K C ∧ PySem.W.findIn K (.ref C) f = some none ∧ fs.lookup f = some v ∧ Q v H1
theorem pe_heldF {e : Expr} {te : TE} {pos : Pos} {f : Str} (he : PE X e te) (hb : attributeBase e f X.env (eval e X.env) = eval e X.env := by rfl) : PE X (.Attribute e f pos) (tHeldF X.K f te) := by
  refine ⟨fun pins s σ H Q I h => attr_of hb (thn (he.run pins s σ H _ I h) fun u s1 ⟨x, H1, I1, rx, a, C, dd, fs, v, ex, h1, h2, T, no, l, q⟩ => ?_)⟩
  subst ex
  cases (show u = Value.ref a from rx)
  obtain ⟨ox, od, mA, J, rl, lk⟩ := exc_inst I1 h1 h2
  obtain ⟨y, hy, ry⟩ := RelO.some_of (v := v) (o := mA f) (by rw [← l]; exact rl f)
  exact HandSPX.exc_get I1.kIn J T.ga T.gg T.exC (PySem.W.findObj_own T.hdC no rfl (by rw [lk, hy])) (handed_of ry) ⟨v, H1, I1.tok _, ry, q⟩
end
end Nv

set_option maxRecDepth 100000
set_option maxHeartbeats 4000000
namespace Nv
open PySem PySem.Spec PyProof.Rows L2
/-- an empty set as the machine lays it -/
abbrev freshSet (w : World) : Obj :=
  { cls := .type "set", dict := none,
    data := .set #[] 0 (.fresh 0 0 (!w.params.followText "set-order")) }
section
variable {P : Program} {w : World} {A : Around} {E : Value → Shared → Prop} {s : Shared}
set_option maxHeartbeats 4000000 in
/-- set(l), l a list of intz -/
theorem set_of_list {l : Addr} {its : Array Value} (ns : List Int) {Q : Value → Shared → Prop} (cool : A.handled = none) (isl : s.heap.IsList l its) (intz : IntsAre its.toList ns) (few : ns.length + 1 < scanBound)
    (q : ∀ (h' : Heap) (tk c : Nat), SetR w h' s.heap.objs.size (fun j => decide (j ∈ ns)) c → c ≤ ns.length → (∀ b o, s.heap.get? b = some o → h'.get? b = some o) → Q (.ref s.heap.objs.size) { s with heap := h', toks := tk }) :
    wpAny (model P w) A (call (.type "set") [.ref l]) Q E s := by
  have cnt : its.size = ns.length := by
    have z := IntsAre.length intz
    rw [Array.length_toList] at z
    exact z
  obtain ⟨c, tl, hmro⟩ := PySem.F.called_set.mro
  have hmade := PySem.F.called_set.made
  have hsub := PySem.F.called_set.sub
  refine wpAny_call (codeAny_of_tree ?_)
  show wpAny _ _ (callAny (.type "set") _) _ _ _
  refine wpAny_pure ⟨Code.quiet_builtin _ (by decide +kernel), codeAny_builtin PySem.F.entry_type_call ?_⟩
  rw [Around.under_plain (weight_type_call_type "set" [.ref l] []) rfl]
  have e1 := PySem.F.called_set.notType
  have e2 := PySem.F.called_set.canCreate
  have e3 := PySem.F.typeCall_set_1 (.ref l)
  repeat (any_goals (first | assumption | wp_step))
  refine codeAny_mono (code_set_led1 (.ref l) (E := E) (Q₁ := fun obj t1 => obj = .ref s.heap.objs.size ∧ t1 = { s with heap := s.heap.push (freshSet w) }) ⟨rfl, rfl⟩) fun r t1 hr => ?_
  cases r with
  | error e => exact hr
  | ok fl =>
    cases fl with
    | ret obj =>
      obtain ⟨rfl, rfl⟩ := hr
      have gS : (s.heap.push (freshSet w)).get? s.heap.objs.size = some (freshSet w) := Heap.get?_push_size _ rfl
      have tS : Shared.TypeIs { s with heap := s.heap.push (freshSet w) } (.ref s.heap.objs.size) "set" := ⟨_, gS, rfl⟩
      have e4 := PySem.F.called_set.init.lookup
      have e5 := PySem.F.called_set.init.bind (.ref s.heap.objs.size)
      repeat (any_goals (first | assumption | wp_step))
      refine codeAny_mono (codeAny_call_builtin (R := wants (fun r t2 => r = .none ∧ ∃ h' tk c, t2 = { s with heap := h', toks := tk } ∧ SetR w h' s.heap.objs.size (fun j => decide (j ∈ ns)) c ∧ c ≤ ns.length ∧
          (∀ b o, s.heap.get? b = some o → h'.get? b = some o)) E) PySem.F.called_set.init.plain PySem.F.entry_set_init (check_set_init_1 tS ?_)) fun r2 t2 hr2 => ?_
      · obtain ⟨ol, gl, cl, nl, dl⟩ := isl
        obtain ⟨ocl, odi, oda, osl⟩ := ol
        simp only at cl dl
        subst cl; subst dl
        have gl' : (s.heap.push (freshSet w)).get? l = some { cls := .type "list", dict := odi, data := .seq its nl, slots := osl } := Heap.get?_push_of_some _ gl
        have d1 := PySem.F.sub_list_set
        have d2 := PySem.F.sub_list_frozenset
        have d3 : (Value.type "list" == Value.type "dict") = false := by decide
        have il : (s.heap.push (freshSet w)).IsList l its := ⟨_, gl', rfl, nl, rfl⟩
        unfold Builtin.«set.__init__» noKeywords Builtin.Frozenset.updateFrom
        generalize hPI : pyIter = PI
        wp_walk
        subst hPI
        refine wpAny_pyIter_list il ?_
        refine wpAny_bind (wpAny_runValue ?_)
        have ll : l < s.heap.objs.size := Heap.lt_size gl
        have cool3 : A.in1.in1.in1.handled = none := by simp [cool]
        have nI : l ≠ (s.heap.push (freshSet w)).objs.size := by
          rw [Heap.size_push]; exact Nat.ne_of_lt (Nat.lt_succ_of_lt ll)
        have nS : s.heap.objs.size ∉ [(s.heap.push (freshSet w)).objs.size, l] := by
          rw [Heap.size_push]; simp only [List.mem_cons, List.mem_singleton, List.not_mem_nil, or_false, not_or]
          exact ⟨Nat.ne_of_lt (Nat.lt_succ_self _), Nat.ne_of_gt ll⟩
        have vals : ∀ (i : Nat) (v : Value), its[i]? = some v → ∃ k t, ns[i]? = some k ∧ v = .int k t := fun i v hv => by
          have li : i < ns.length := by rw [← cnt]; exact (Array.getElem?_eq_some_iff.mp hv).1
          obtain ⟨t, e⟩ := PyProof.Rows.IntsAre.int_at intz i v (by rw [Array.getElem?_toList]; exact hv)
          refine ⟨ns[i], t, List.getElem?_eq_getElem li, ?_⟩
          rw [e, List.getD_eq_getElem?_getD, List.getElem?_eq_getElem li] <;> rfl
        refine set_update_ints ((Walks.list cool3 _ l nI its).toS) s.heap.objs.size
          nS ns cnt few vals (its.size - 0) 0 _ (by omega) (Nat.zero_le _)
          ⟨⟨_, Heap.get?_push_size _ rfl, rfl, rfl⟩, (il.push _)⟩ ?hA ?hB
        case hA =>
          exact ⟨0, Nat.le_refl 0, setR_new_at (Heap.get?_push_of_some _ gS)⟩
        case hB =>
          intro t3 c3 mv lc R3
          obtain ⟨h3, g3, d3', tk3, os3⟩ := t3
          have eg : g3 = s.gens := mv.gens
          have ed : d3' = s.drawn := mv.drawn
          have eo : os3 = s.os := mv.os
          subst eg; subst ed; subst eo
          show wpAny _ _ _ _ _ _
          refine wpAny_pure ?_
          show wpAny _ _ (ret Value.none) _ _ _
          rw [cnt] at lc
          refine wpAny_pure ⟨rfl, h3, tk3, c3, rfl, R3, lc, fun b o e => ?_⟩
          have b0 : b < s.heap.objs.size := Heap.lt_size e
          have b1 : b ≠ s.heap.objs.size := Nat.ne_of_lt b0
          have b2 : b ≠ (s.heap.push (freshSet w)).objs.size := by
            rw [Heap.size_push]; exact Nat.ne_of_lt (Nat.lt_succ_of_lt b0)
          exact mv.heap b o (by simp only [List.mem_cons, List.mem_singleton, List.not_mem_nil, or_false, not_or]; exact ⟨b1, b2⟩) (Heap.get?_push_of_some _ (Heap.get?_push_of_some _ e))
      · cases r2 with
        | error e => exact hr2
        | ok fl2 =>
          cases fl2 with
          | ret r =>
            obtain ⟨rfl, h3, tk3, c3, rfl, R3, lc, kp⟩ := hr2
            repeat (any_goals (first | assumption | wp_step))
            exact q _ _ _ R3 lc kp
          | _ => exact hr2.elim
    | _ => exact hr.elim
end
/-- how many unlike intz -/
def Card (ns : List Int) (c : Nat) : Prop := ∀ l : List Int, l.Nodup → (∀ k, k ∈ l ↔ k ∈ ns) → l.length = c
theorem card_of {w : World} {h : Heap} {a : Addr} {ns : List Int} {c : Nat} (R : SetR w h a (fun j => decide (j ∈ ns)) c) : Card ns c := fun l nd m => by
  obtain ⟨o, es, ep, t, _, _, _, _, nk, mem, _, _, sz, _⟩ := R
  have p : l.Perm (es.toList.map keyOf) := (List.perm_ext_iff_of_nodup nd nk).mpr fun k => by
    rw [m k, ← mem k]
    simp
  rw [p.length_eq, List.length_map, Array.length_toList, sz]
section
variable {X : Cx}
/-- set(e): a list or a tuple of intz -/
def rSetI (K : PySem.W.Frag) (w : World) : List V → Hp → VK → Prop := fun xs H Q => ∃ (p : Addr) (ns : List Int), xs = [.ref p] ∧ (SqL K H p (ns.map V.int) ∨ SqT K H p (ns.map V.int)) ∧ ns.length ≤ 1000 ∧
  ∀ (a : Addr) (c : Nat) (H' : Hp), H a = none → Card ns c → c ≤ ns.length → H' a = some (SetO w a (fun j => decide (j ∈ ns)) c) → Same H H' → Q (.ref a) H'
theorem cr_setI (hc : X.calm = true) : CallR X (.type "set") (rSetI X.K X.w) := by
  intro pins s σ H xs us Q I r h
  obtain ⟨p, ns, rfl, hq, hl, q⟩ := h
  obtain ⟨u, rfl, ru⟩ := vals1 r
  cases (show u = Value.ref p from ru)
  have cool := I.ok.hd hc
  have fin : ∀ (h' : Heap) (tk c : Nat), SetR X.w h' s.heap.objs.size (fun j => decide (j ∈ ns)) c → c ≤ ns.length → (∀ b o, s.heap.get? b = some o → h'.get? b = some o) → EP X pins σ Q (.ref s.heap.objs.size) { s with heap := h', toks := tk } := fun h' tk c R lc kp => by
    have fr : H s.heap.objs.size = none := I.hok.fresh (Nat.le_refl _)
    refine ⟨.ref s.heap.objs.size, upd H s.heap.objs.size (SetO X.w s.heap.objs.size (fun j => decide (j ∈ ns)) c), ?_, rfl, q _ c _ fr (card_of R) lc upd_same (Same.neu fr)⟩
    exact I.laid kp (Nat.le_refl _) (setO_new R)
  rcases hq with hq | hq
  · obtain ⟨its, rv, pl, hz⟩ := I.list hq
    exact set_of_list ns cool pl.isList (by simpa using RZ.intsAre_vals rv) (by unfold scanBound; omega) fin
  · obtain ⟨its, rv, pt, hz⟩ := I.tuple hq
    exact call_set_tupI ns cool pt (by simpa using RZ.intsAre_vals rv) (by unfold scanBound; omega) fin
/-- len(s) -/
def rLenS (w : World) : List V → Hp → VK → Prop := fun xs H Q => ∃ (a : Addr) (S : Int → Bool) (n : Nat), xs = [.ref a] ∧ H a = some (SetO w a S n) ∧ Q (.int ((n : Nat) : Int)) H
theorem cr_lenS : CallR X (.builtin "len") (rLenS X.w) := by
  intro pins s σ H xs us Q I r h
  obtain ⟨a, S, n, rfl, ha, q⟩ := h
  obtain ⟨u, rfl, ru⟩ := vals1 r
  cases (show u = Value.ref a from ru)
  obtain ⟨o, es, ep, t, go, ex, dd, _, _, _, sb, ft, en, _⟩ := setO_get I ha
  exact call_len_set go ex dd ft (by unfold scanBound at sb; omega) ⟨.int ((n : Nat) : Int), H, I.tok _, ⟨_, by rw [en]⟩, q⟩
end
end Nv

set_option maxRecDepth 100000
set_option maxHeartbeats 4000000
namespace Nv
open PySem PySem.Spec PyProof.Rows L2
/-! ### rules whose reading names K alone -/
section
variable {X : Cx} {K : PySem.W.Frag}
def rLenSeq (K : PySem.W.Frag) : List V → Hp → VK → Prop := fun xs H Q => ∃ p ys, xs = [.ref p] ∧ (SqL K H p ys ∨ SqT K H p ys) ∧ Q (.int ys.length) H
theorem cr_lenSeq (h : X.K = K) : CallR X (.builtin "len") (rLenSeq K) := by subst h; exact call_len_seq
theorem ix_seqK (h : X.K = K) : IxR X (rIx K) := by subst h; exact ix_seq
theorem ix_listK (h : X.K = K) : IxR X (rIxL K) := by subst h; exact ix_list
theorem op_inK (h : X.K = K) : OpR X (compareOp .In) (rIn K false) := by subst h; exact op_in_seq
theorem op_ninK (h : X.K = K) : OpR X (compareOp .NotIn) (rIn K true) := by subst h; exact op_notIn_seq
end
/-! ### readings peeled -/
section
variable {σ : L2.St} {H : Hp}
theorem pNot {t : TT} {Q : Bool → Hp → Prop} (h : t σ H fun b H1 => Q (!b) H1) : tNot t σ H Q := h
theorem pB {t : TE} {Q : Bool → Hp → Prop} (h : t σ H fun x H1 => ∃ d, x = .bl d ∧ Q d H1) : tB t σ H Q := h
theorem pCB1 {r : List V → Hp → VK → Prop} {t : TE} {Q : VK} (h : t σ H fun x H1 => r [x] H1 Q) : tCB r (tCons t tNil) σ H Q := h
theorem pAsg {te : TE} {g : TG} {D : Ends} (h : te σ H fun x H1 => g x σ H1 D.nx) : tAsg te g D σ H := h
theorem pOp {r : R2} {ta tb : TE} {Q : VK} (h : ta σ H fun x H1 => tb σ H1 fun y H2 => r x y H2 Q) : tOp r ta tb σ H Q := h
theorem pCall1 {sp : Sp} {dvs : List V} {E : XK} {t : TE} {Q : VK} (h : t σ H fun x H1 => sp ([x] ++ dvs) H1 Q E) : tCall sp dvs E (tCons t tNil) σ H Q := h
end
/-! ### a row: a list or a tuple -/
def Row (K : PySem.W.Frag) (H : Hp) (a : Addr) (xs : List V) : Prop := SqT K H a xs ∨ SqL K H a xs
theorem same_t {K : PySem.W.Frag} {H H' : Hp} {a : Addr} {xs : List V} (e : Same H H') (h : SqT K H a xs) : SqT K H' a xs := h.imp (fun h => h.imp (fun h => e _ _ h) fun ⟨o, h⟩ => ⟨o, e _ _ h⟩) id
theorem same_l {K : PySem.W.Frag} {H H' : Hp} {a : Addr} {xs : List V} (e : Same H H') (h : SqL K H a xs) : SqL K H' a xs := h.imp (fun h => h.imp (fun h => e _ _ h) fun ⟨o, h⟩ => ⟨o, e _ _ h⟩) id
theorem Same.row {K : PySem.W.Frag} {H H' : Hp} {a : Addr} {xs : List V} (e : Same H H') (r : Row K H a xs) : Row K H' a xs :=
  r.imp (same_t e) (same_l e)
/-- walked: a list or a tuple -/
def iRow (K : PySem.W.Frag) (tl : TE) : TI := fun σ H R => iList K tl σ H R ∨ iTup K tl σ H R
theorem pi_row {X : Cx} {tg l : Expr} {tl : TE} (h : PE X l tl) : PI X tg l (iRow X.K tl) :=
  ⟨fun pins s σ H R I q => q.elim (fun q => (pi_list (tg := tg) h).run pins s σ H R I q) fun q => (pi_tup (tg := tg) h).run pins s σ H R I q⟩
theorem lc_turn {xs : List V} {i : Nat} {vs : List Nat} {σ : L2.St} {H : Hp} {tt : TT} {te : TE} (f : V → V) (t : V → Bool) (few : xs.length < sizeLine) (hw : ∀ x, wipe ((wipe σ vs).set i (some x)) vs = wipe σ vs)
    (ht : ∀ (x : V) (H' : Hp) (R : Bool → Hp → Prop), x ∈ xs → Same H H' → (∀ H'', Same H' H'' → R (t x) H'') → tt ((wipe σ vs).set i (some x)) H' R)
    (he : ∀ (x : V) (H' : Hp) (R : VK), x ∈ xs → t x = true → Same H H' → (∀ H'', Same H' H'' → R (f x) H'') → te ((wipe σ vs).set i (some x)) H' R) : ∀ (D : Addr) (j : Nat) (x : V) (H' : Hp), xs[j]? = some x → (Same H H' ∧ H' D = some (.lst (((xs.take j).filter t).map f)) ∧ H D = none) → gName i x (wipe σ vs) H' fun σ2 H2 => wipe σ2 vs = wipe σ vs ∧ tt σ2 H2 fun b H3 =>
      if b = true then te σ2 H3 fun y H4 => ∃ acc, H4 D = some (.lst acc) ∧ acc.length < sizeLine ∧ (Same H (upd H4 D (.lst (acc ++ [y]))) ∧ (upd H4 D (.lst (acc ++ [y]))) D = some (.lst (((xs.take (j + 1)).filter t).map f)) ∧ H D = none)
      else Same H H3 ∧ H3 D = some (.lst (((xs.take (j + 1)).filter t).map f)) ∧ H D = none := fun D j x H' hx ⟨s, e, n⟩ => by
    have mem : x ∈ xs := List.mem_of_getElem? hx
    refine ⟨hw x, ht x H' _ mem s fun H2 s2 => ?_⟩
    have tk : xs.take (j + 1) = xs.take j ++ [x] := by rw [List.take_add_one, hx]; rfl
    cases b : t x with
    | true =>
      rw [if_pos rfl]
      refine he x H2 _ mem b (s.trans s2) fun H3 s3 => ⟨_, s3 _ _ (s2 _ _ e), ?_, fun c o h => ?_, ?_, n⟩
      · rw [List.length_map]
        have h1 := List.length_filter_le t (xs.take j)
        have h2 := List.length_take_le j xs
        have h3 := List.length_take_le' j xs
        omega
      · rw [upd_ne (ne_of_none h n)]
        exact s3 _ _ (s2 _ _ (s _ _ h))
      · rw [upd_same, tk, List.filter_append, List.map_append]
        simp [b]
    | false =>
      rw [if_neg Bool.false_ne_true]
      refine ⟨s.trans s2, ?_, n⟩
      rw [s2 _ _ e, tk, List.filter_append]
      simp [b]
/-- [e for x in row if t], e and t only add to the heap -/
theorem lc_row {K : PySem.W.Frag} {a : Addr} {xs : List V} {i : Nat} {vs : List Nat} {σ : L2.St} {H : Hp} {tl : TE} {tt : TT} {te : TE} {Q : VK} (f : V → V) (t : V → Bool) (hq : Row K H a xs) (few : xs.length < sizeLine) (hw : ∀ x, wipe ((wipe σ vs).set i (some x)) vs = wipe σ vs)
    (hl : ∀ R : V → Hp → Prop, R (.ref a) H → tl σ H R)
    (ht : ∀ (x : V) (H' : Hp) (R : Bool → Hp → Prop), x ∈ xs → Same H H' → (∀ H'', Same H' H'' → R (t x) H'') → tt ((wipe σ vs).set i (some x)) H' R)
    (he : ∀ (x : V) (H' : Hp) (R : VK), x ∈ xs → t x = true → Same H H' → (∀ H'', Same H' H'' → R (f x) H'') → te ((wipe σ vs).set i (some x)) H' R)
    (q : ∀ (p : Addr) (H' : Hp), H p = none → H' p = some (.lst ((xs.filter t).map f)) → Same H H' → Q (.ref p) H') : tLc (iRow K tl) (gName i) tt te vs σ H Q := by
  have start : ∀ D, H D = none → Same H (upd H D (.lst [])) ∧ (upd H D (.lst [])) D = some (.lst (((xs.take 0).filter t).map f)) ∧ H D = none := fun D n => ⟨Same.neu n, by rw [List.take_zero]; exact upd_same, n⟩
  have fin : ∀ (D : Addr) (H' : Hp), (Same H H' ∧ H' D = some (.lst (((xs.take xs.length).filter t).map f)) ∧ H D = none) → Q (.ref D) H' := fun D H' ⟨s, e, n⟩ => q D H' n (by rw [List.take_length] at e; exact e) s
  rcases hq with hT | hL
  · refine .inr (hl _ ⟨a, rfl, ⟨_, hT⟩, fun D nD => ?_⟩)
    exact lc_tup (K := K) (a := a) (xs := xs) (fun j H' => Same H H' ∧ H' D = some (.lst (((xs.take j).filter t).map f)) ∧ H D = none) (start D nD) (fun j H' _ p => same_t p.1 hT) (lc_turn f t few hw ht he D) (fin D)
  · refine .inl (hl _ ⟨a, rfl, ⟨_, hL⟩, fun D nD => ?_⟩)
    exact lc_list (K := K) (a := a) (xs := xs) (fun j H' => Same H H' ∧ H' D = some (.lst (((xs.take j).filter t).map f)) ∧ H D = none) (start D nD) (fun j H' _ p => same_l p.1 hL) (lc_turn f t few hw ht he D) (fin D)

/-- .. where the list is what an expression has just given -/
theorem lc_rowL {K : PySem.W.Frag} {a : Addr} {xs : List V} {i : Nat} {vs : List Nat} {σ : L2.St} {H : Hp} {tt : TT} {te : TE} {Q : VK} (f : V → V) (t : V → Bool) (hq : SqL K H a xs) (few : xs.length < sizeLine) (hw : ∀ x, wipe ((wipe σ vs).set i (some x)) vs = wipe σ vs)
    (ht : ∀ (x : V) (H' : Hp) (R : Bool → Hp → Prop), x ∈ xs → Same H H' → (∀ H'', Same H' H'' → R (t x) H'') → tt ((wipe σ vs).set i (some x)) H' R)
    (he : ∀ (x : V) (H' : Hp) (R : VK), x ∈ xs → t x = true → Same H H' → (∀ H'', Same H' H'' → R (f x) H'') → te ((wipe σ vs).set i (some x)) H' R)
    (q : ∀ (p : Addr) (H' : Hp), H p = none → H' p = some (.lst ((xs.filter t).map f)) → Same H H' → Q (.ref p) H') : tLc (iList K (tC (.ref a))) (gName i) tt te vs σ H Q := by
  have start : ∀ D, H D = none → Same H (upd H D (.lst [])) ∧ (upd H D (.lst [])) D = some (.lst (((xs.take 0).filter t).map f)) ∧ H D = none := fun D n => ⟨Same.neu n, by rw [List.take_zero]; exact upd_same, n⟩
  have fin : ∀ (D : Addr) (H' : Hp), (Same H H' ∧ H' D = some (.lst (((xs.take xs.length).filter t).map f)) ∧ H D = none) → Q (.ref D) H' := fun D H' ⟨s, e, n⟩ => q D H' n (by rw [List.take_length] at e; exact e) s
  refine ⟨a, rfl, ⟨_, hq⟩, fun D nD => ?_⟩
  exact lc_list (K := K) (a := a) (xs := xs) (fun j H' => Same H H' ∧ H' D = some (.lst (((xs.take j).filter t).map f)) ∧ H D = none) (start D nD) (fun j H' _ p => same_l p.1 hq) (lc_turn f t few hw ht he D) (fin D)
theorem pLc {K : PySem.W.Frag} {g : TG} {tt : TT} {te tl : TE} {vs : List Nat} {σ : L2.St} {H : Hp} {Q : VK} (h : tl σ H fun x H1 => tLc (iList K (tC x)) g tt te vs σ H1 Q) : tLc (iList K tl) g tt te vs σ H Q := h
/-! ### own errors of one field -/
/-- what the text has of an own error's class, its __init__ at f -/
structure ErrC (K : PySem.W.Frag) (mg : Str → Option Value) (x : Str) (C f : Addr) (fd : FuncData) (qual : Str) (st : Stmt) (ps : List Str) : Prop where
  O : OexC K C
  iC : PySem.W.findIn K (.ref C) "__init__" = some (some (.ref f))
  tI : PySem.W.typeIn K (.ref f) = some (.type "function")
  F : Fun K "__init__" qual st f fd
  b : Binds K fd ps []
  m : mg x = some (.ref C)
  E : ExcC K C
  X : XfC K C
/-- self.part = part -/
def spErr (K : PySem.W.Frag) (C : Addr) (g : Str) : Sp := fun vs H Q _ => ∃ (a : Addr) (v : V), vs = [.ref a, v] ∧ OexC K C ∧ PySem.W.findIn K (.ref C) g = some none ∧ H a = some (exo a C none) ∧
  ∀ (d : Addr) (H' : Hp), H d = none → d ≠ a → H' = upd (upd H d (exd d [(g, v)])) a (exo a C (some d)) → Q .non H'
/-- raise C(v): what is asked -/
theorem mk_err {K : PySem.W.Frag} {C : Addr} {g : Str} {H : Hp} {v : V} {Q : XK} {σ : L2.St} {ta : TA} (O : OexC K C) (no : PySem.W.findIn K (.ref C) g = some none) (ha : ∀ R : List V → Hp → Prop, R [v] H → ta σ H R)
    (q : ∀ (d : Addr) (H' : Hp), H d = none → H' d = some (.xd [(g, v)]) → Same H H' → Q (.ref C) (some d) H') : tMkO C (spErr K C g) [] ta σ H Q := by
  refine ha _ ⟨by show 1 ≤ 1000; decide, fun a na => ⟨a, v, rfl, O, no, upd_same, fun d H' nd nda e => ⟨rfl, d, [(g, v)], ?_, ?_, ?_, ?_⟩⟩⟩
  · rw [e]; exact upd_same
  · rw [e, upd_ne nda]; exact upd_same
  · rw [upd_ne nda] at nd; exact nd
  · have nd1 : H d = none := by rw [upd_ne nda] at nd; exact nd
    refine q d _ nd1 upd_same fun b o h => ?_
    have b1 : b ≠ d := ne_of_none h nd1
    have b2 : b ≠ a := ne_of_none h na
    rw [upd_ne b1, del_ne b2, e, upd_ne b2, upd_ne b1, upd_ne b2]
    exact h
/-! ### words kept by a list of pairs of a text and a truth -/
/-- the truths of two or three pairs, and the words that are so -/
def Pairs (K : PySem.W.Frag) (H : Hp) : List V → List (Str × Bool) → Prop
  | [], [] => True
  | v :: vs, p :: ps => (∃ t, v = .ref t ∧ SqT K H t [.str p.1, .bl p.2]) ∧ Pairs K H vs ps
  | _, _ => False
theorem Pairs.get {K : PySem.W.Frag} {H : Hp} : ∀ {vs : List V} {ps : List (Str × Bool)} {i : Nat} {v : V}, Pairs K H vs ps → vs[i]? = some v → ∃ p t, ps[i]? = some p ∧ v = .ref t ∧ SqT K H t [.str p.1, .bl p.2]
  | v :: vs, p :: ps, 0, _, h, e => by
    obtain ⟨⟨t, e1, e2⟩, _⟩ := h
    simp at e
    exact ⟨p, t, rfl, by rw [← e, e1], e2⟩
  | v :: vs, p :: ps, i + 1, x, h, e => by
    obtain ⟨q, t, h1, h2⟩ := Pairs.get (i := i) (v := x) h.2 (by simpa using e)
    exact ⟨q, t, by simpa using h1, h2⟩
theorem Pairs.len {K : PySem.W.Frag} {H : Hp} : ∀ {vs : List V} {ps : List (Str × Bool)}, Pairs K H vs ps → vs.length = ps.length
  | [], [], _ => rfl
  | _ :: _, _ :: _, h => by rw [List.length_cons, List.length_cons, Pairs.len h.2]
/-- [word for word, is_so in kinds if is_so] -/
theorem lc_words {K : PySem.W.Frag} {a : Addr} {vs : List V} {ps : List (Str × Bool)} {i j : Nat} {ow : List Nat} {σ : L2.St} {H : Hp} {tl : TE} {Q : VK} (hq : H a = some (.lst vs)) (hp : Pairs K H vs ps) (few : vs.length ≤ 1000) (ij : i ≠ j) (hw : ∀ x y, wipe (((wipe σ ow).set i (some x)).set j (some y)) ow = wipe σ ow)
    (hi : ∀ x y, (((wipe σ ow).set i (some x)).set j (some y))[i]? = some (some x)) (hj : ∀ x y, (((wipe σ ow).set i (some x)).set j (some y))[j]? = some (some y)) (hl : ∀ R : V → Hp → Prop, R (.ref a) H → tl σ H R)
    (q : ∀ (p : Addr) (H' : Hp), H p = none → H' p = some (.lst ((ps.filter (·.2)).map fun p => V.str p.1)) → Same H H' → Q (.ref p) H') :
    tLc (iList K tl) (gTup K 2 (gCons (gName i) (gCons (gName j) gNil))) (fun σ H R => tVar j σ H fun x H' => ∃ d, x = .bl d ∧ R d H') (tVar i) ow σ H Q := by
  refine hl _ ⟨a, rfl, ⟨_, SqL.of hq⟩, fun D nD => ?_⟩
  refine lc_list (K := K) (a := a) (xs := vs) (g := gTup K 2 (gCons (gName i) (gCons (gName j) gNil))) (tt := fun σ H R => tVar j σ H fun x H' => ∃ d, x = .bl d ∧ R d H') (te := tVar i) (vs := ow) (σ := σ) (Qd := fun H => Q (.ref D) H) (fun k H' => Same H H' ∧ H' D = some (.lst (((ps.take k).filter (·.2)).map fun p => V.str p.1)) ∧ H D = none) ⟨Same.neu nD, by rw [List.take_zero]; exact upd_same, nD⟩ (fun k H' _ p => same_l p.1 (SqL.of hq)) (fun k x H' hx p => ?_) (fun H' p => ?_)
  · obtain ⟨s, e, n⟩ := p
    obtain ⟨pr, t, hpr, rfl, ht⟩ := hp.get hx
    refine ⟨t, _, rfl, same_t s ht, rfl, _, _, rfl, _, _, rfl, rfl, hw _ _, _, hj _ _, _, rfl, ?_⟩
    have tk : ps.take (k + 1) = ps.take k ++ [pr] := by rw [List.take_add_one, hpr]; rfl
    cases b : pr.2 with
    | true =>
      refine iteT ⟨_, hi _ _, _, e, ?_, fun c o h => ?_, ?_, n⟩
      · rw [List.length_map]
        have h1 := List.length_filter_le (fun p : Str × Bool => p.2) (ps.take k)
        have h3 := List.length_take_le' k ps
        have h4 := hp.len
        have : sizeLine = 16777216 := by decide
        omega
      · rw [upd_ne (ne_of_none h n)]
        exact s _ _ h
      · rw [upd_same, tk, List.filter_append, List.map_append]
        simp [b]
    | false =>
      refine iteF ⟨s, ?_, n⟩
      rw [e, tk, List.filter_append]
      simp [b]
  · obtain ⟨s, e, n⟩ := p
    rw [hp.len, List.take_length] at e
    exact q D H' n e s
end Nv

set_option maxRecDepth 100000
set_option maxHeartbeats 4000000
namespace Nv
open PySem PySem.Spec PyProof.Rows L2
section
variable {prog : Program} {w : World} {A : Around} {E : Value → Shared → Prop} {s : Shared} {K : PySem.W.Frag} {x C f : Addr} {ox : Obj} {od : Option Obj} {name : Str} {b tb : Value}
theorem bound_slot {M : Model} {args : List Value} {id : String} {Q : Option Value → Shared → Prop} (X : K.In s.heap) (I : PySem.W.InstAt s.heap x ox C od) (at_ : PySem.W.findIn K (.ref C) name = some (some (.builtin id)))
    (bnd : ∀ self, bindSpecial (.builtin id) self = pure (.builtin id, [self])) (q : wpAny M A (call (.builtin id) (.ref x :: args)) (fun v => Q (some v)) E s) : wpAny M A (callSpecialIfBound? (.ref x) name args) Q E s := by
  have L : PySem.W.Looks M s.heap (bindSpecial (.builtin id) (.ref x)) (.builtin id, [.ref x]) := PySem.W.Looks.of_pure (bnd (.ref x))
  have goal : wpAny M A (call (.builtin id) ([.ref x] ++ args) >>= fun v => pure (some v)) Q E s := wpAny_bind (wpAny_mono q (fun v s' z => wpAny_pure z) fun _ _ z => z)
  simp only [callSpecialIfBound?, bindSpecialIfBound?]
  refine wpAny_holding (wpAny_bind (wpAny_bind (wpAny_bind (I.type.here ((PySem.W.looks_findIn X at_).here ?_)))))
  refine wpAny_bind (wpAny_askSetting (wpAny_ite ?_))
  split
  · exact wpAny_bind (L.here (wpAny_pure (by exact goal)))
  · exact wpAny_tryCatch (wpAny_bind (L.here (wpAny_pure (by exact goal))))
/-- x != b, by the class's own __eq__ -/
theorem ne_own {Q : Value → Shared → Prop} (hu : A.units + 1 < cLine) (X : K.In s.heap) (I : PySem.W.InstAt s.heap x ox C od) (ty : PySem.W.Looks (model prog w) s.heap (typeOf b) tb) (nf : PySem.W.notFirst K C tb = true)
    (ne : PySem.W.findIn K (.ref C) "__ne__" = some (some (.builtin "object.__ne__"))) (eq : PySem.W.findIn K (.ref C) "__eq__" = some (some (.ref f))) (fn : PySem.W.isFn K (.ref f) = true) (ob : PySem.W.mroIn K C (.type "object") = some true)
    (q : wpAny (model prog w) A.in1 (call (.ref f) [.ref x, b]) (fun v s' => ∃ r, v = .bool r ∧ Q (.bool (!r)) s') E s) : wpAny (model prog w) A (richCompare .NotEq (.ref x) b) Q E s := by
  have body : wpAny (model prog w) A.in1 (Builtin.«object.__ne__» ⟨[.ref x, b], []⟩) (fun fin s' => ∃ r, fin = .done (.ret (.bool (!r))) ∧ Q (.bool (!r)) s') E s := by
    obtain ⟨hp, g, d, t, os⟩ := s
    have hu1 : A.in1.units < cLine := by simpa using hu
    unfold Builtin.«object.__ne__»
    repeat (first
      | with_reducible refine wpAny_cRoomFor hu1 ?_
      | (refine wpAny_bind (m := callSpecialIfBound? (.ref x) (Str.ofString "__eq__") [b])
          (PySem.W.ifBound_K X I eq fn (wpAny_mono q (fun r s' hr => by
            obtain ⟨r0, rfl, hq⟩ := hr
            repeat (first | exact ⟨r0, rfl, hq⟩ | exact wpAny_pure ⟨r0, rfl, hq⟩ | (refine wpAny_bind (m := truthy (.bool _)) (wpAny_truthy_bool ?_)) | wp_step)) fun _ _ e => e)))
      | wp_step)
  have one : wpAny (model prog w) A (tryCompare (.ref x) "__ne__" b) (fun r s' => ∃ v, r = some v ∧ Q v s') E s := by
    unfold tryCompare
    have isO : PySem.W.Looks (model prog w) s.heap (isInstance (.ref x) (.type "object")) true := I.type.andThen (PySem.W.looks_mroIn X ob)
    refine wpAny_bind (bound_slot X I ne PySem.F.slot_object_ne.bind (wpAny_call (codeAny_call_builtin PySem.F.slot_object_ne.plain PySem.F.cmpEntry_ne ?_)))
    refine PySem.W.check_slot (owner := "object") (n := "__ne__") PySem.F.cmpKind_ne PySem.F.cmpSplit_ne isO (PySem.F.cmpArgs_ne _ _) ?_
    refine wpAny_mono body (fun fin s' z => ?_) fun _ _ e => e
    obtain ⟨r, rfl, hq⟩ := z
    first | exact ⟨_, rfl, wpAny_pure hq⟩ | exact wpAny_pure ⟨_, rfl, hq⟩ | exact ⟨_, rfl, hq⟩
  unfold richCompare
  simp only [oneThing_ref]
  refine wpAny_holding (wpAny_bind (wpAny_cRoomFor (by omega) ?_))
  rw [cmpInfo_NotEq]
  dsimp only
  refine wpAny_bind (I.type.here (wpAny_bind (ty.here ?_)))
  split
  · rename_i z
    have e : PySem.W.subIn K tb (.ref C) = some false := by
      rcases Bool.or_eq_true_iff.mp nf with e | e
      · rw [beq_iff_eq.mp e] at z; simp at z
      · exact beq_iff_eq.mp e
    refine wpAny_bind ((PySem.W.looks_subIn X e).here ?_)
    simp only [Bool.false_eq_true, if_false]
    refine wpAny_bind (wpAny_mono one (fun r s' y => ?_) fun _ _ e => e)
    obtain ⟨v, rfl, hq⟩ := y
    exact wpAny_pure hq
  · refine wpAny_bind (wpAny_pure ?_)
    simp only [Bool.false_eq_true, if_false]
    refine wpAny_bind (wpAny_mono one (fun r s' y => ?_) fun _ _ e => e)
    obtain ⟨v, rfl, hq⟩ := y
    exact wpAny_pure hq
end
/-- x == y, x != y: x an instance whose class has an own __eq__ that keeps sp -/
def rOwnC (neg : Bool) (K : PySem.W.Frag) (C : Addr) (sp : Sp) (E : XK) : R2 := fun x y H Q => ∃ (a dx : Addr) (fs : List (Str × V)) (t : Value), x = .ref a ∧ H a = some (.ins C dx fs) ∧ TyX K H y t ∧ PySem.W.notFirst K C t = true ∧
  sp [x, y] H (fun v H' => ∃ r, v = .bl r ∧ Q (.bl (if neg then !r else r)) H') E
/-- what the class must have -/
structure OwnC (K : PySem.W.Frag) (C f : Addr) : Prop where
  eq : PySem.W.findIn K (.ref C) "__eq__" = some (some (.ref f))
  fn : PySem.W.isFn K (.ref f) = true
  ne : PySem.W.findIn K (.ref C) "__ne__" = some (some (.builtin "object.__ne__"))
  ob : PySem.W.mroIn K C (.type "object") = some true
section
variable {X : Cx} {CX : CXT} {k : Nat} {C f : Addr} {fd : FuncData} {ps : List Str} {sp : Sp} {E : XK} {A : Around}
theorem own_call {pins : List (Addr × Obj)} {σ : L2.St} {H : Hp} {s : Shared} {Q : VK} {x y : V} {u v : Value} (F : FnOk X.prog X.w X.K X.mg X.base CX k f fd ps sp) (bnd : Binds X.K fd ps []) (out : Passes CX X E) (I : Inv X pins σ H s) (fr : A.frames = X.A.frames) (room : Room k A)
    (rx : RelV x u) (ry : RelV y v) (h : sp [x, y] H Q E) : wpAny (model X.prog X.w) A (call (.ref f) [u, v]) (EP X pins σ Q) X.xe s := by
  have e0 : Env0 X.prog X.w X.K X.mg X.base A X.stack s H := by
    have e := I.env0
    exact ⟨by rw [fr]; exact e.frames, e.mod, e.bs, e.bsz, e.funs, e.frf, e.hok, e.bare⟩
  have ln := F.len _ _ _ _ h
  have r2 : Vals [x, y] [u, v] := .cons rx (.cons ry .nil)
  refine wpAny_call (codeAny_mono (F.run A X.stack s H ⟨[u, v], []⟩ [u, v] [x, y] _ E room e0 (by
    have z := bnd s [u, v] I.kIn (by simpa using ln)
    simpa using z) r2 h) fun r s' hq => ?_)
  cases r with
  | error e => exact out pins σ H s e s' I hq
  | ok fl =>
    cases fl with
    | ret z => exact I.after hq
    | next => exact False.elim hq
    | brk => exact False.elim hq
    | cont => exact False.elim hq
theorem op_eqOwn (T : OwnC X.K C f) (F : FnOk X.prog X.w X.K X.mg X.base CX k f fd ps sp) (bnd : Binds X.K fd ps []) (out : Passes CX X E) (room : Room k X.A) : OpR X (compareOp .Eq) (rOwnC false X.K C sp E) := by
  intro pins s σ H x y v u Q I rx ry ⟨a, dx, fs, t, e, h1, ty, nf, h⟩
  subst e
  cases (show v = Value.ref a from rx)
  obtain ⟨mA, J, _⟩ := ins_get I.hok h1
  obtain ⟨od, J, _⟩ := J.look
  obtain ⟨m, hF⟩ := I.fr
  obtain ⟨P, Z, p, _⟩ := kit_of I ry ty
  show wpAny (model X.prog X.w) X.A (richCompare .Eq (.ref a) u) (EP X pins σ Q) X.xe s
  refine PySem.W.cmp_K (op := .Eq) (tb := t) room.units0 hF I.ok.mod.kin J (Z.ty _ _ I.kIn p) nf T.eq T.fn ?_
  refine wpAny_mono (own_call (x := .ref a) F bnd out I rfl room rfl ry h) (fun z s' hz => ?_) fun _ _ e => e
  obtain ⟨v', H', I', rz, r, e, q⟩ := hz
  subst e
  cases (show z = Value.bool r from rz)
  exact ⟨.bl r, H', I', rfl, q⟩
theorem op_neOwn (T : OwnC X.K C f) (F : FnOk X.prog X.w X.K X.mg X.base CX k f fd ps sp) (bnd : Binds X.K fd ps []) (out : Passes CX X E) (room : Room (k + 1) X.A) : OpR X (compareOp .NotEq) (rOwnC true X.K C sp E) := by
  intro pins s σ H x y v u Q I rx ry ⟨a, dx, fs, t, e, h1, ty, nf, h⟩
  subst e
  cases (show v = Value.ref a from rx)
  obtain ⟨mA, J, _⟩ := ins_get I.hok h1
  obtain ⟨od, J, _⟩ := J.look
  obtain ⟨P, Z, p, _⟩ := kit_of I ry ty
  show wpAny (model X.prog X.w) X.A (richCompare .NotEq (.ref a) u) (EP X pins σ Q) X.xe s
  refine ne_own (tb := t) (by have := room.units; omega) I.kIn J (Z.ty _ _ I.kIn p) nf T.ne T.eq T.fn T.ob ?_
  refine wpAny_mono (own_call (x := .ref a) F bnd out I (by rfl) room.in1 rfl ry h) (fun z s' hz => ?_) fun _ _ e => e
  obtain ⟨v', H', I', rz, r, e, q⟩ := hz
  subst e
  cases (show z = Value.bool r from rz)
  exact ⟨r, rfl, .bl (!r), H', I', rfl, q⟩
end
end Nv

set_option maxRecDepth 100000
set_option maxHeartbeats 4000000
namespace Nv
open PySem PySem.Spec PyProof.Rows L2 LamX
/-- as FnG.of, the def's code object told -/
theorem FnG.ofC {P : Program} {w : World} {K : PySem.W.Frag} {mg : Str → Option Value} {base : Heap} {x qual : Str} {st : Stmt} {f c : Addr} {fd : FuncData} {N ps : List Str} {k : Nat} {sp : Sp}
    (F : Fun K x qual st f fd) (hcode : fd.code = .ref c) (S : FnScope N ps (defScope st)) (ar : ∀ vs H Q E, sp vs H Q E → vs.length = ps.length)
    (walk : ∀ (A : Around) (fr : List Env) (s : Shared) (H : Hp) (vs : List V) (Q : VK) (E : XK), A.guards = some [] → Room k (A.deeper (envOfC qual (defScope st) s.heap.objs.size f (.ref c))) → sp vs H Q E →
      ∃ t, PSs (cxOf CX0 P w K mg base N qual (defScope st) f (.ref c) A fr s H E).nox (defBody st) t ∧ t { nx := fun _ H' => Q .non H', rt := Q } (start N vs) H) : FnG P w K mg base (k + 1) f fd ps sp := by
  obtain ⟨g1, g2, g3, g4, g5, g6, cdv, g7, g8, rfl, known, isCode⟩ := F.ex
  cases (show cdv = .ref c from hcode)
  refine ⟨ar, fun A fr s H ag us vs Q E noGuard room e0 bnd rel wish => ?_⟩
  have kin : K.In s.heap := e0.mod.kin.keeps fun b o e => (e0.bs b o e).1
  have unlim : s.heap.NoLimit := e0.mod.nolimit.keeps fun b o e => (e0.bs b o e).1
  have slots : ∀ y ∈ ps.zip us, (defScope st).names.lookup y.1 = some .local ∨ ((defScope st).names.lookup y.1 = some .cell ∧ ((cellsFrom (s.heap.objs.size + 1) (defScope st).names []).lookup y.1).isSome = true) := fun ⟨n, v⟩ hy => by
    rcases S.par n (List.of_mem_zip hy).1 with z | z
    · exact .inl z
    · exact .inr ⟨z, PySem.W.cellsFrom_some _ _ _ (.inl z)⟩
  refine codeAny_call_function room.depth (kin _ _ known) rfl S.co S.gen rfl (PySem.W.codeRec_of kin isCode) (bnd _ _ _ _ ?_)
  refine wpAny_newFunctionEnv_cells S.kind slots fun env eenv s1 grown => ?_
  subst eenv
  refine ⟨unlim.keeps grown.toInCall.keep, codeAny_func ?_⟩
  obtain ⟨t, ht, hq⟩ := walk A fr s H vs Q E noGuard (room.deeper _) wish
  have I : Inv (cxOf CX0 P w K mg base N qual (defScope st) f (.ref c) A fr s H E) [] (start N vs) H s1 := inv_start S room.hd e0 (ar _ _ _ _ wish) rel grown
  refine wpAny_mono (ht.nox.run [] s1 (start N vs) H _ I hq) (fun fl s' hs => ?_) fun e s' hs => hs
  have last : ∀ {σ' : L2.St} {H' : Hp} {v : V} {u : Value}, Inv (cxOf CX0 P w K mg base N qual (defScope st) f (.ref c) A fr s H E) [] σ' H' s' → RelV v u → Q v H' → CE fr P w H s Q u s' :=
    fun {σ' H' v u} J rv q => ⟨v, H', J.os, J.bare, J.base, J.hok, rv, q⟩
  cases fl with
  | brk => exact hs.choose_spec.choose_spec.2.elim
  | cont => exact hs.choose_spec.choose_spec.2.elim
  | next =>
    obtain ⟨σ', H', J, q⟩ := hs
    exact last (v := V.non) (u := Value.none) J rfl q
  | ret u =>
    obtain ⟨v, σ', H', J, rv, q⟩ := hs
    exact last J rv q

section
variable {P : Program} {w : World} {K : PySem.W.Frag} {mg mb : Str → Option Value} {k : Nat} {fa a : Addr} {fd : FuncData} {x : Str} {sp : Sp} {s1 : Shared} {vs : List Value} {ns : List Int} {cs : List (Addr × Addr)}
/-- the tables of code objects are empty and told -/
def Tab0 (cs : List (Addr × Addr)) (H : Hp) : Prop := ∀ p ∈ cs, H p.2 = some (.tbl #[])
theorem callGT (inK : K.In s1.heap) (gns : s1.heap.Ns mainGlobals mg) (bns : s1.heap.Ns builtinsNs mb) (bbo : ∀ x : Str, x ≠ "__name__" → mb x = bootBuiltins x) (nol : s1.heap.NoLimit) (nog : s1.gens = #[])
    (tabs : ∀ p ∈ cs, s1.heap.get? p.2 = some (PySem.W.tabObj #[])) (tabK : ∀ p ∈ cs, K.lookup p.2 = none) (codes : ∀ p ∈ cs, PySem.W.CodeHd s1.heap p.1 p.2)
    (bmain : ∃ (bm : Addr) (ob : Obj), mg "__builtins__" = some (.ref bm) ∧ bm ≠ builtinsNs ∧ s1.heap.get? bm = some ob ∧ ob.cls = .type "module" ∧ ob.dict = some builtinsNs ∧ ob.data = .plain)
    (scr : s1.heap.get? a = some { cls := .type "list", data := .seq vs.toArray }) (nums : IntsAre vs ns) (len : ns.length ≤ sizeLine) (room : Room k callerA)
    (F : ∀ base : Heap, K.In base → base.Ns mainGlobals mg → (∀ p ∈ cs, TabB base mg p.1 p.2) → FnG P w K mg base k fa fd [x] sp) (bnd : ∀ (s : Shared) (u : Value), BindsTo s fd ⟨[u], []⟩ [(x, u)])
    (due : ∀ H : Hp, Tab0 cs H → SqL K H a (ns.map V.int) → sp [.ref a] H (fun v _ => v = .bl true) fun _ _ _ => False) :
    codeAny (model P w) callerA (.call (.ref fa) ⟨[.ref a], []⟩) (LawEnd s1) s1 := by
  have rel := vals_ints nums
  have cnt := nums.length
  have tabAt : ∀ {b : Addr}, (∃ p ∈ cs, p.2 = b) → s1.heap.get? b = some (PySem.W.tabObj #[]) := fun ⟨p, hp, e⟩ => e ▸ tabs p hp
  have apart : ¬ ∃ p ∈ cs, p.2 = a := fun z => by
    have g := tabAt z
    rw [scr] at g
    cases (show Data.seq vs.toArray _ = Data.fields #[] from congrArg Obj.data (Option.some.inj g))
  have main : ∀ H : Hp, Tab0 cs H → (∀ b, H b = none ∨ (∃ p ∈ cs, p.2 = b) ∨ ∃ o xs, H b = some (.frz o (.lst xs))) → SqL K H a (ns.map V.int) → HOk P w H s1.heap → (∀ b, H b ≠ none → b = a ∨ ∃ p ∈ cs, p.2 = b) → (H a ≠ none → K.lookup a = none) →
      codeAny (model P w) callerA (.call (.ref fa) ⟨[.ref a], []⟩) (LawEnd s1) s1 := by
    intro H tab kind seq okH own notK
    have low : ∀ {b : Addr} {o : Obj}, s1.heap.get? b = some o → H b = none → (hidT s1.heap H).get? b = some o := fun g n => hidT_get g n
    have free : ∀ {b : Addr} {o : Obj}, s1.heap.get? b = some o → (∀ us n, o.data ≠ .seq us n) → o.data ≠ .fields #[] → H b = none := fun {b o} g h1 h2 => by
      cases c : H b with
      | none => rfl
      | some u =>
        rcases own b (by rw [c]; simp) with z | z
        · rw [z, scr] at g
          cases g
          exact absurd rfl (h1 _ _)
        · rw [tabAt z] at g
          cases g
          exact absurd rfl h2
    have dictFree : ∀ {b : Addr} {o : Obj} {es : Array DictEntry} {ep : Nat}, s1.heap.get? b = some o → o.data = .dict es ep → H b = none := fun {b o es ep} g d =>
      free g (fun us n z => by rw [d] at z; cases z) fun z => by rw [d] at z; cases z
    have lowNs : ∀ {b : Addr} {m : Str → Option Value}, s1.heap.Ns b m → (hidT s1.heap H).Ns b m := fun {b m} ⟨o, es, ep, g, d, r⟩ => ⟨o, es, ep, low g (dictFree g d), d, r⟩
    have lowK : K.In (hidT s1.heap H) := fun b o e => low (inK b o e) (by
      cases c : H b with
      | none => rfl
      | some u =>
        rcases own b (by rw [c]; simp) with z | ⟨p, hp, z⟩
        · rw [z] at c e
          rw [notK (by rw [c]; simp)] at e
          cases e
        · rw [← z, tabK p hp] at e
          cases e)
    have modu : Mod K mg (hidT s1.heap H) := ⟨lowK, lowNs gns, ⟨mb, lowNs bns, bbo⟩, let ⟨mc, c1, c2⟩ := nol; ⟨mc, lowNs c1, c2⟩⟩
    have tb : ∀ p ∈ cs, TabB (hidT s1.heap H) mg p.1 p.2 := fun p hp => by
      have atP := tabs p hp
      obtain ⟨go, ges, gep, gg, gd, gr⟩ := id gns
      refine ⟨?_, ?_, fun z => ?_⟩
      · obtain ⟨o, fs, d1, d2, d3, d4, d5, d6, d7, g, r1, r2, r3, rest⟩ := codes p hp
        exact ⟨o, fs, d1, d2, d3, d4, d5, d6, d7, low g (free g (fun us n z => by rw [r2] at z; cases z) fun z => by
          rw [r2] at z
          cases z
          simp at r3), r1, r2, r3, rest⟩
      · obtain ⟨bm, ob, b1, b2, b3, b4, b5, b6⟩ := bmain
        have n1 : bm ≠ mainGlobals := fun z => by
          rw [z, gg] at b3
          cases b3
          rw [gd] at b6
          cases b6
        have n2 : bm ≠ p.2 := fun z => by
          rw [z, atP] at b3
          cases b3
          cases b6
        exact ⟨bm, ob, b1, b2, n1, n2, low b3 (free b3 (fun us n z => by rw [b6] at z; cases z) fun z => by rw [b6] at z; cases z), b4, b5, b6⟩
      · rw [z, atP] at gg
        cases gg
        cases gd
    have env0 : Env0 P w K mg (hidT s1.heap H) callerA [] s1 H := ⟨rfl, modu, fun b o e => of_hidT e, Nat.le_of_eq (hidT_size _ _), trivial, fun b hb => absurd (show b ∈ ([] : List Addr) from hb) (by simp), okH, .of_eq nog⟩
    refine codeAny_mono ((F _ lowK (lowNs gns) tb).go callerA [] s1 H ⟨[.ref a], []⟩ [.ref a] [.ref a] _ _ rfl room env0 (bnd s1 (.ref a)) (.cons rfl .nil) (due H tab seq)) fun r s' h => ?_
    cases r with
    | error e => exact False.elim h
    | ok fl =>
      cases fl with
      | brk => exact False.elim h
      | cont => exact False.elim h
      | next => exact False.elim h
      | ret u =>
        obtain ⟨v, H', sameOs, bare', unt, okH', rl, good⟩ := h
        obtain rfl : v = .bl true := good
        obtain rfl : u = Value.bool true := rl
        have stays : ∀ b o, (¬ ∃ p ∈ cs, p.2 = b) → s1.heap.get? b = some o → s'.heap.get? b = some o := fun b o nt g => by
          cases c : H b with
          | none => exact unt.keep b o g c (by intro z; exact absurd (show b ∈ ([] : List Addr) from z) (by simp)) (by simp)
          | some u =>
            rcases kind b with z | z | ⟨ob, xs, z⟩
            · rw [c] at z; cases z
            · exact absurd z nt
            · obtain ⟨g1, _⟩ := okH b _ z
              obtain ⟨g2, _⟩ := okH' b _ (unt.frzs b ob _ z)
              rw [g] at g1; cases g1
              exact g2
        have more : ∀ p ∈ cs, ∃ us : Array Value, s'.heap.get? p.2 = some (PySem.W.tabObj us) := fun p hp =>
          let ⟨us, z⟩ := unt.tbls p.2 #[] (tab p hp)
          ⟨_, okH' p.2 _ z⟩
        refine ⟨rfl, ⟨fun b o g => ?_, fun b o g => ?_⟩, sameOs, bare'⟩
        · by_cases nt : ∃ p ∈ cs, p.2 = b
          · obtain ⟨p, hp, rfl⟩ := nt
            obtain ⟨us, z⟩ := more p hp
            rw [tabs p hp] at g
            cases g
            exact .inr (.inl ⟨((codes p hp).tab (tabs p hp)).isCodeTable, rfl, #[], us, rfl, by rw [Array.empty_append]; exact z⟩)
          · exact .inl (stays b o nt g)
        · by_cases nt : ∃ p ∈ cs, p.2 = b
          · obtain ⟨p, hp, rfl⟩ := nt
            obtain ⟨us, z⟩ := more p hp
            exact ⟨_, z⟩
          · exact ⟨o, stays b o nt g⟩
  cases inn : K.lookup a with
  | some o =>
    have g := inK a o inn
    rw [scr] at g
    cases g
    refine main (fun b => if ∃ p ∈ cs, p.2 = b then some (.tbl #[]) else none) (fun p hp => if_pos ⟨p, hp, rfl⟩) (fun b => ?_) (.inr ⟨_, vs.toArray, _, inn, rfl, rfl, rfl, by rw [List.size_toArray, cnt]; exact len, by simpa using rel⟩) (fun b u z => ?_) (fun b z => ?_)
      fun z => absurd (if_neg apart) z
    · by_cases t : ∃ p ∈ cs, p.2 = b
      · exact .inr (.inl t)
      · exact .inl (if_neg t)
    · by_cases t : ∃ p ∈ cs, p.2 = b
      · have y := (if_pos t).symm.trans z
        cases y
        exact tabAt t
      · have y := (if_neg t).symm.trans z
        cases y
    · by_cases t : ∃ p ∈ cs, p.2 = b
      · exact .inr t
      · exact absurd (if_neg t) z
  | none =>
    refine main (fun b => if b = a then some (.frz { cls := .type "list", data := .seq vs.toArray } (.lst (ns.map V.int))) else if ∃ p ∈ cs, p.2 = b then some (.tbl #[]) else none)
      (fun p hp => (if_neg fun z => apart ⟨p, hp, z⟩).trans (if_pos ⟨p, hp, rfl⟩)) (fun b => ?_) (.inl (.inr ⟨{ cls := .type "list", data := .seq vs.toArray }, if_pos rfl⟩)) (fun b u z => ?_) (fun b z => ?_) fun _ => inn
    · by_cases e : b = a
      · exact .inr (.inr ⟨_, _, if_pos e⟩)
      · by_cases t : ∃ p ∈ cs, p.2 = b
        · exact .inr (.inl t)
        · exact .inl ((if_neg e).trans (if_neg t))
    · by_cases e : b = a
      · have y := (if_pos e).symm.trans z
        cases y
        rw [e]
        exact ⟨scr, by rw [List.length_map]; exact len, vs, _, rel, scr⟩
      · have y := (if_neg e).symm.trans z
        by_cases t : ∃ p ∈ cs, p.2 = b
        · have y2 := (if_pos t).symm.trans y
          cases y2
          exact tabAt t
        · have y2 := (if_neg t).symm.trans y
          cases y2
    · by_cases e : b = a
      · exact .inl e
      · by_cases t : ∃ p ∈ cs, p.2 = b
        · exact .inr t
        · exact absurd ((if_neg e).trans (if_neg t)) z
end
/-- what the end of a proof gives of the law at the head's heap h -/
def LawT (l : PySem.W.OpenLaw) (w : World) (K : PySem.W.Frag) (k n : Nat) (x : Str) (mg : Str → Option Value) (fa : Addr) (h : Heap) : Prop :=
  ∃ (fd : FuncData) (cs : List (Addr × Addr)) (sp : Sp), (∀ p ∈ cs, h.get? p.2 = some (PySem.W.tabObj #[]) ∧ K.lookup p.2 = none ∧ PySem.W.CodeHd h p.1 p.2) ∧ (∀ (s : Shared) (u : Value), BindsTo s fd ⟨[u], []⟩ [(x, u)]) ∧
    (∀ (H : Hp) (a : Addr) (ns : List Int), ns.length ≤ n → Tab0 cs H → SqL K H a (ns.map V.int) → sp [.ref a] H (fun v _ => v = .bl true) fun _ _ _ => False) ∧
    ∀ base : Heap, K.In base → base.Ns mainGlobals mg → (∀ p ∈ cs, TabB base mg p.1 p.2) → FnG l.prog w K mg base k fa fd [x] sp
theorem walkGT {l : PySem.W.OpenLaw} {n k : Nat} {q : Program} {loose : List Str} {XP : (Str → Option Value) → Heap → Prop} {YP : World → Heap → Prop} {d : DefRec} {K : Params → PySem.W.Frag} {x : Str}
    (most : l.most = some n) (small : n ≤ sizeLine) (nodef : d.params.defaults = []) (room : Room k callerA) (inK : ∀ (w : World) (h : Heap), YP w h → (K w.params).In h)
    (F : ∀ (w : World) (mg : Str → Option Value) (fa : Addr) (h : Heap), YP w h → (K w.params).In h → h.Ns mainGlobals mg → mg d.name = some (.ref fa) → LawT l w (K w.params) k n x mg fa h) :
    PySem.W.WalkO q loose XP YP l.row.toRowW d [] (fun f vs => PySem.call f vs) := by
  refine Att.attach_call most nodef fun w s0 s1 mg mb fa o pm cd doc a vs ns G Y hobj _ _ hmg scr nums len nog => ?_
  obtain ⟨fd, cs, sp, tc, bnd, due, ok⟩ := F w mg fa _ Y (inK w _ Y) G.T.g hmg
  exact callGT (inK w _ Y) G.T.g G.T.b G.T.builtins G.T.nolimit nog (fun p hp => (tc p hp).1) (fun p hp => (tc p hp).2.1) (fun p hp => (tc p hp).2.2) G.T.bmain scr nums (Nat.le_trans len small) room ok bnd fun H tab seq => due H a ns len tab seq
end Nv

set_option maxRecDepth 100000
set_option maxHeartbeats 4000000
namespace K17
open PySem PySem.Spec PyProof.Rows L2 Nv
def topS (i : Nat) : Stmt := PySem.Challenge.pw_neverhit_k17_sheets_made_and_refused.main.body.getD i (.Pass ⟨0, 0, 0, 0⟩)
abbrev s_is_integer : Stmt := topS 1
theorem sc_is_integer : FnScope ["value"] ["value"] (defScope s_is_integer) := ⟨rfl, rfl, rfl, by decide +kernel, rfl, by decide +kernel, by decide +kernel⟩
abbrev s_is_within : Stmt := topS 2
theorem sc_is_within : FnScope ["value", "least", "most"] ["value", "least", "most"] (defScope s_is_within) := ⟨rfl, rfl, rfl, by decide +kernel, rfl, by decide +kernel, by decide +kernel⟩
abbrev s_is_row : Stmt := topS 3
theorem sc_is_row : FnScope ["value"] ["value"] (defScope s_is_row) := ⟨rfl, rfl, rfl, by decide +kernel, rfl, by decide +kernel, by decide +kernel⟩
abbrev s__is_order : Stmt := topS 20
theorem sc__is_order : FnScope ["row", "number"] ["row"] (defScope s__is_order) := ⟨rfl, rfl, rfl, by decide +kernel, rfl, by decide +kernel, by decide +kernel⟩
abbrev s__reach_all : Stmt := topS 21
theorem sc__reach_all : FnScope ["right", "up", "found", "seen", "at", "number", "other"] ["right", "up"] (defScope s__reach_all) := ⟨rfl, rfl, rfl, by decide +kernel, rfl, by decide +kernel, by decide +kernel⟩
abbrev s__have_corners : Stmt := topS 22
theorem sc__have_corners : FnScope ["right", "up", "corners", "number", "one", "other"] ["right", "up", "corners"] (defScope s__have_corners) := ⟨rfl, rfl, rfl, by decide +kernel, rfl, by decide +kernel, by decide +kernel⟩
abbrev s_BadSheet_init : Stmt := inClass (topS 6) 0
theorem sc_BadSheet_init : FnScope ["self", "part"] ["self", "part"] (defScope s_BadSheet_init) := ⟨rfl, rfl, rfl, by decide +kernel, rfl, by decide +kernel, by decide +kernel⟩
abbrev s_Misfit_init : Stmt := inClass (topS 7) 0
theorem sc_Misfit_init : FnScope ["self", "part"] ["self", "part"] (defScope s_Misfit_init) := ⟨rfl, rfl, rfl, by decide +kernel, rfl, by decide +kernel, by decide +kernel⟩
/-- what the text has: the sheet's class, the errors' classes -/
structure Txt (K : PySem.W.Frag) (mg : Str → Option Value) (tk : Tok) (CS CB CF CT CM fE : Addr) : Prop where
  n_isinstance : mg "isinstance" = none
  n_int : mg "int" = none
  n_bool : mg "bool" = none
  n_list : mg "list" = none
  n_tuple : mg "tuple" = none
  n_len : mg "len" = none
  n_all : mg "all" = none
  n_set : mg "set" = none
  n_range : mg "range" = none
  n_sorted : mg "sorted" = none
  n_abs : mg "abs" = none
  n_repr : mg "repr" = none
  c_MOST_IN_SHEET : mg "MOST_IN_SHEET" = some (.int 400 tk)
  g_Sheet : mg "Sheet" = some (.ref CS)
  g_BadSheet : mg "BadSheet" = some (.ref CB)
  g_Misfit : mg "Misfit" = some (.ref CF)
  g_TooMany : mg "TooMany" = some (.ref CT)
  g_MirrorError : mg "MirrorError" = some (.ref CM)
  cl : Cls K CS
  own : OwnC K CS fE
  nR : NoAttr K CS "right"
  nU : NoAttr K CS "up"
  nC : NoAttr K CS "corners"
  nM : NoAttr K CS "many"
  npB : PySem.W.findIn K (.ref CB) "part" = some none
  npF : PySem.W.findIn K (.ref CF) "part" = some none
  eB : PySem.W.exmOne K (.ref CB) (.ref CM) = some true
  eF : PySem.W.exmOne K (.ref CF) (.ref CM) = some true
  kBT : PySem.W.kitOne K (.ref CB) (.ref CT) = some false
  kBB : PySem.W.kitOne K (.ref CB) (.ref CB) = some true
  kBF : PySem.W.kitOne K (.ref CB) (.ref CF) = some false
  kFT : PySem.W.kitOne K (.ref CF) (.ref CT) = some false
  kFB : PySem.W.kitOne K (.ref CF) (.ref CB) = some false
  kFF : PySem.W.kitOne K (.ref CF) (.ref CF) = some true
  kNT : PySem.W.kitOne K (.type "NoneType") (.ref CT) = some false
  kNB : PySem.W.kitOne K (.type "NoneType") (.ref CB) = some false
  kNF : PySem.W.kitOne K (.type "NoneType") (.ref CF) = some false
  kSS : PySem.W.kitOne K (.ref CS) (.ref CS) = some true
  kTS : PySem.W.kitOne K (.type "tuple") (.ref CS) = some false
  nfS : PySem.W.notFirst K CS (.ref CS) = true
  nfT : PySem.W.notFirst K CS (.type "tuple") = true
section
variable {P : Program} {w : World} {K : PySem.W.Frag} {mg : Str → Option Value} {base : Heap} {tk : Tok} {CS CB CF CT CM fE : Addr}
theorem ok_is_integer {f : Addr} {fd : FuncData} (F : Fun K "is_integer" "is_integer" s_is_integer f fd) (T : Txt K mg tk CS CB CF CT CM fE) : FnOk P w K mg base CX0 1 f fd ["value"] spInt := by
  refine F.ok sc_is_integer (fun vs H Q E h => ?_) (fun cdv A outer s H vs Q E hr h => ?_)
  · obtain ⟨x, rfl, _⟩ := h
    rfl
  · obtain ⟨x, rfl, ⟨sh, hx⟩, q⟩ := h
    refine ⟨_, (pss_one (ps_ret (pe_and (pe_callB call_isi (by rfl) T.n_isinstance (by decide +kernel) (pa_cons (pv 0) (pa_cons (pe_bltn (v := .ty "int") (by rfl) T.n_int (by decide +kernel) rfl) pa_nil))) (pe_one (pe_not (pe_callB call_isi (by rfl) T.n_isinstance (by decide +kernel) (pa_cons (pv 0) (pa_cons (pe_bltn (v := .ty "bool") (by rfl) T.n_bool (by decide +kernel) rfl) pa_nil)))))))), ?_⟩
    refine ⟨x, rfl, x, .ty "int", _, _, _, rfl, .ty _, hx.ty, kit_ty (kit_int sh), _, rfl, ?_⟩
    cases hx with
    | bl b => exact iteT ⟨_, rfl, _, .ty "bool", _, _, _, rfl, .ty _, (Is.bl b).ty, kit_ty (kit_bool _), _, rfl, q⟩
    | int i => exact iteT ⟨_, rfl, _, .ty "bool", _, _, _, rfl, .ty _, (Is.int i).ty, kit_ty (kit_bool _), _, rfl, q⟩
    | non => exact iteF q
    | str z => exact iteF q
    | lst e => exact iteF q
    | tup e => exact iteF q
    | dic e => exact iteF q
theorem ok_is_row {f : Addr} {fd : FuncData} (F : Fun K "is_row" "is_row" s_is_row f fd) (T : Txt K mg tk CS CB CF CT CM fE) : FnOk P w K mg base CX0 1 f fd ["value"] spRow := by
  refine F.ok sc_is_row (fun vs H Q E h => ?_) (fun cdv A outer s H vs Q E hr h => ?_)
  · obtain ⟨x, _, rfl, _⟩ := h
    rfl
  · obtain ⟨x, sh, rfl, hx, q⟩ := h
    refine ⟨_, (pss_one (ps_ret (pe_callB call_isiT (by rfl) T.n_isinstance (by decide +kernel) (pa_cons (pv 0) (pa_cons (Nv.pe_tupN (pa_cons (pe_bltn (v := .ty "list") (by rfl) T.n_list (by decide +kernel) rfl) (pa_cons (pe_bltn (v := .ty "tuple") (by rfl) T.n_tuple (by decide +kernel) rfl) pa_nil))) pa_nil))))), ?_⟩
    refine ⟨x, rfl, (by show 2 ≤ sizeLine; decide), fun p H1 np e1 s1 => ?_⟩
    refine ⟨x, p, [.ty "list", .ty "tuple"], .type (tyN sh), [.type "list", .type "tuple"], (rowOf sh).isSome, rfl, e1, .cons (.ty _) (.cons (.ty _) .nil), (hx.up s1).ty, ?_, q _ s1⟩
    cases sh with
    | lst xs => exact kitAny_cons (kit_ty (kit_list (.lst xs))) (fun z => by cases z) (fun _ => rfl)
    | tup xs => exact kitAny_cons (kit_ty (kit_list (.tup xs))) (fun _ => kitAny_cons (kit_ty (kit_tuple (.tup xs))) (fun z => by cases z) (fun _ => rfl)) (fun z => by cases z)
    | non => exact kitAny_cons (kit_ty (kit_list .non)) (fun _ => kitAny_cons (kit_ty (kit_tuple .non)) (fun _ => kitAny_nil) (fun z => by cases z)) (fun z => by cases z)
    | bl b => exact kitAny_cons (kit_ty (kit_list (.bl b))) (fun _ => kitAny_cons (kit_ty (kit_tuple (.bl b))) (fun _ => kitAny_nil) (fun z => by cases z)) (fun z => by cases z)
    | int b => exact kitAny_cons (kit_ty (kit_list (.int b))) (fun _ => kitAny_cons (kit_ty (kit_tuple (.int b))) (fun _ => kitAny_nil) (fun z => by cases z)) (fun z => by cases z)
    | str b => exact kitAny_cons (kit_ty (kit_list (.str b))) (fun _ => kitAny_cons (kit_ty (kit_tuple (.str b))) (fun _ => kitAny_nil) (fun z => by cases z)) (fun z => by cases z)
    | dic => exact kitAny_cons (kit_ty (kit_list .dic)) (fun _ => kitAny_cons (kit_ty (kit_tuple .dic)) (fun _ => kitAny_nil) (fun z => by cases z)) (fun z => by cases z)
theorem ok_is_within {f fI : Addr} {fd dI : FuncData} (F : Fun K "is_within" "is_within" s_is_within f fd) (D_is_integer : Df K mg "is_integer" s_is_integer ["value"] fI dI) (T : Txt K mg tk CS CB CF CT CM fE) : FnOk P w K mg base CX0 2 f fd ["value", "least", "most"] spWithin := by
  have G_is_integer : FnOk P w K mg base CX0 1 fI dI ["value"] spInt := ok_is_integer D_is_integer.F T
  refine F.ok sc_is_within (fun vs H Q E h => ?_) (fun cdv A outer s H vs Q E hr h => ?_)
  · obtain ⟨x, lo, hi, rfl, _⟩ := h
    rfl
  · obtain ⟨x, lo, hi, rfl, hx, q⟩ := h
    refine ⟨_, (pss_cons (ps_if (pt_not (pt_val (pe_call G_is_integer (hr.mono (by decide)) (by rfl) D_is_integer.m D_is_integer.F.kp D_is_integer.b .nil pass0 (pa_cons (pv 0) pa_nil))))
(pss_one (ps_ret pe_bl))
pss_nil)
(pss_one (ps_ret (pe_and (pe_or (pe_cmpR op_isN (pv 1) pe_non (nomark _)) (pe_one (pe_cmpR op_ge (pv 0) (pv 1) (nomark _)))) (pe_one (pe_or (pe_cmpR op_isN (pv 2) pe_non (nomark _)) (pe_one (pe_cmpR op_le (pv 0) (pv 2) (nomark _))))))))), ?_⟩
    refine ⟨x, rfl, x, rfl, hx, _, rfl, ifb (fun z => ?_) (fun z => ?_)⟩
    · have e : wIn x lo hi = false := by cases x <;> first | rfl | cases z
      rw [e] at q
      exact q
    · obtain ⟨v, rfl⟩ : ∃ v, x = .int v := by cases x <;> first | exact ⟨_, rfl⟩ | cases z
      refine ⟨bV lo, rfl, rfl, _, rfl, ?_⟩
      have two : ∀ b : Bool, geO v lo = b → ∃ c, V.bl b = .bl c ∧ if c = true then tOrV (tOp (fun x y H Q => y = .non ∧ Q (.bl (decide (x = .non))) H) (tVar 2) (tC .non)) (tOp (rI0 fun i j => .bl (decide (i ≤ j))) (tVar 0) (tVar 2)) [some (.int v), some (bV lo), some (bV hi)] H Q else Q (.bl false) H := fun b hb => by
        refine ⟨_, rfl, ifb (fun z => ?_) (fun z => ?_)⟩
        · refine ⟨bV hi, rfl, rfl, _, rfl, ?_⟩
          cases hi with
          | none =>
            have e : wIn (.int v) lo none = true := by
              show (geO v lo && true) = true
              rw [hb, z]; rfl
            rw [e] at q
            exact iteT q
          | some m =>
            refine iteF ⟨_, rfl, _, rfl, v, m, rfl, rfl, ?_⟩
            have e : wIn (.int v) lo (some m) = decide (v ≤ m) := by
              show (geO v lo && decide (v ≤ m)) = _
              rw [hb, z]; rfl
            rw [e] at q
            exact q
        · have e : wIn (.int v) lo hi = false := by
            show (geO v lo && _) = false
            rw [hb, z]; rfl
          rw [e] at q
          exact q
      cases lo with
      | none => exact iteT (two true rfl)
      | some l => exact iteF ⟨_, rfl, _, rfl, v, l, rfl, rfl, two _ rfl⟩
/-! ### the errors -/
theorem ok_BadSheet {f : Addr} {fd : FuncData} (E : ErrC K mg "BadSheet" CB f fd "BadSheet.__init__" s_BadSheet_init ["self", "part"]) : FnOk P w K mg base CX0 1 f fd ["self", "part"] (spErr K CB "part") := by
  refine E.F.ok sc_BadSheet_init (fun vs H Q E h => ?_) (fun cdv A outer s H vs Q E hr h => ?_)
  · obtain ⟨a, v, rfl, _⟩ := h
    rfl
  · obtain ⟨a, v, rfl, O, no, ha, q⟩ := h
    refine ⟨_, (pss_one (ps_ost (pv 0) (pv 1) (by rfl))), ?_⟩
    exact ⟨v, rfl, _, rfl, a, CB, rfl, O, no, .inl ⟨ha, fun d nd nda => q d _ nd nda rfl⟩⟩
theorem ok_Misfit {f : Addr} {fd : FuncData} (E : ErrC K mg "Misfit" CF f fd "Misfit.__init__" s_Misfit_init ["self", "part"]) : FnOk P w K mg base CX0 1 f fd ["self", "part"] (spErr K CF "part") := by
  refine E.F.ok sc_Misfit_init (fun vs H Q E h => ?_) (fun cdv A outer s H vs Q E hr h => ?_)
  · obtain ⟨a, v, rfl, _⟩ := h
    rfl
  · obtain ⟨a, v, rfl, O, no, ha, q⟩ := h
    refine ⟨_, (pss_one (ps_ost (pv 0) (pv 1) (by rfl))), ?_⟩
    exact ⟨v, rfl, _, rfl, a, CF, rfl, O, no, .inl ⟨ha, fun d nd nda => q d _ nd nda rfl⟩⟩
end
/-! ### rows that order 0 .. n - 1 -/
def iV (ns : List Nat) : List V := ns.map fun n : Nat => V.int (n : Int)
theorem iV_int (ns : List Nat) : iV ns = (ns.map fun n : Nat => (n : Int)).map V.int := by
  unfold iV
  rw [List.map_map]
  rfl
theorem iV_len (ns : List Nat) : (iV ns).length = ns.length := by unfold iV; rw [List.length_map]
structure Ord (ns : List Nat) : Prop where
  ne : ns ≠ []
  lt : ∀ n ∈ ns, n < ns.length
  nd : ns.Nodup
theorem undup : ∀ ns : List Int, ∃ l : List Int, l.Nodup ∧ (∀ k, k ∈ l ↔ k ∈ ns) ∧ l.length ≤ ns.length ∧ (l.length = ns.length → ns.Nodup)
  | [] => ⟨[], List.nodup_nil, fun _ => Iff.rfl, Nat.le_refl _, fun _ => List.nodup_nil⟩
  | n :: ns => by
    obtain ⟨l, h1, h2, h3, h4⟩ := undup ns
    by_cases m : n ∈ ns
    · refine ⟨l, h1, fun k => ?_, by rw [List.length_cons]; omega, fun e => ?_⟩
      · rw [h2 k, List.mem_cons]
        constructor
        · exact .inr
        · rintro (rfl | z)
          · exact m
          · exact z
      · rw [List.length_cons] at e
        omega
    · refine ⟨n :: l, List.nodup_cons.mpr ⟨fun z => m ((h2 n).mp z), h1⟩, fun k => by rw [List.mem_cons, List.mem_cons, h2 k], by simpa using h3, fun e => ?_⟩
      exact List.nodup_cons.mpr ⟨m, h4 (by simpa using e)⟩
theorem card_nodup {ns : List Int} {c : Nat} (h : Card ns c) : c = ns.length ↔ ns.Nodup := by
  obtain ⟨l, h1, h2, h3, h4⟩ := undup ns
  have e := h l h1 h2
  constructor
  · intro z
    exact h4 (by omega)
  · intro z
    exact (h ns z fun _ => Iff.rfl).symm
theorem nats_of : ∀ (xs : List V) (m : Int), xs.all (fun x => wIn x (some 0) (some m)) = true → ∃ ns : List Nat, xs = iV ns ∧ ∀ n ∈ ns, (n : Int) ≤ m
  | [], _, _ => ⟨[], rfl, fun n h => by cases h⟩
  | x :: xs, m, h => by
    rw [List.all_cons, Bool.and_eq_true] at h
    obtain ⟨ns, e, l⟩ := nats_of xs m h.2
    obtain ⟨i, rfl⟩ : ∃ i, x = .int i := by cases x <;> first | exact ⟨_, rfl⟩ | (have := h.1; cases this)
    have h1 : (decide (0 ≤ i) && decide (i ≤ m)) = true := h.1
    simp only [Bool.and_eq_true, decide_eq_true_eq] at h1
    refine ⟨i.toNat :: ns, ?_, fun n hn => ?_⟩
    · rw [e]
      unfold iV
      rw [List.map_cons, Int.toNat_of_nonneg h1.1]
    · rcases List.mem_cons.mp hn with rfl | hn
      · omega
      · exact l n hn
theorem all_of {ns : List Nat} {m : Int} (h : ∀ n ∈ ns, (n : Int) ≤ m) : (iV ns).all (fun x => wIn x (some 0) (some m)) = true := by
  rw [List.all_eq_true]
  intro x hx
  unfold iV at hx
  obtain ⟨n, hn, rfl⟩ := List.mem_map.mp hx
  show (decide ((0 : Int) ≤ (n : Int)) && decide ((n : Int) ≤ m)) = true
  rw [decide_eq_true (h n hn), decide_eq_true (by omega)]
  rfl
theorem iV_inj {a b : List Nat} (h : iV a = iV b) : a = b := by
  unfold iV at h
  refine List.map_inj_right (f := fun n : Nat => V.int (n : Int)) (fun x y e => ?_) |>.mp h
  injection e with e
  omega
def spOrder (K : PySem.W.Frag) : Sp := fun vs H Q _ => ∃ (a : Addr) (xs : List V), vs = [.ref a] ∧ Row K H a xs ∧ (∀ x ∈ xs, Kn H x) ∧ xs.length ≤ 1000 ∧
  ∀ (b : Bool) (H' : Hp), Same H H' → (b = true ↔ ∃ ns, xs = iV ns ∧ Ord ns) → Q (.bl b) H'
section
variable {P : Program} {w : World} {K : PySem.W.Frag} {mg : Str → Option Value} {base : Heap} {tk : Tok} {CS CB CF CT CM fE : Addr}
theorem ok_is_order {f fI fW : Addr} {fd dI dW : FuncData} (F : Fun K "_is_order" "_is_order" s__is_order f fd) (D_is_within : Df K mg "is_within" s_is_within ["value", "least", "most"] fW dW) (D_is_integer : Df K mg "is_integer" s_is_integer ["value"] fI dI) (T : Txt K mg tk CS CB CF CT CM fE) :
    FnOk P w K mg base CX0 3 f fd ["row"] (spOrder K) := by
  have G_is_within : FnOk P w K mg base CX0 2 fW dW ["value", "least", "most"] spWithin := ok_is_within D_is_within.F D_is_integer T
  refine F.ok sc__is_order (fun vs H Q E h => ?_) (fun cdv A outer s H vs Q E hr h => ?_)
  · obtain ⟨a, xs, rfl, _⟩ := h
    rfl
  · obtain ⟨a, xs, rfl, hq, kn, few, q⟩ := h
    have big : (1000 : Nat) < sizeLine := by decide
    have lenR : ∀ H', Same H H' → (SqL K H' a xs ∨ SqT K H' a xs) := fun H' s => (Same.row s hq).elim .inr .inl
    refine ⟨_, (pss_cons (ps_if (PW.pt (pw_or (pt_not (pt_truth (pv 0) (by intro _; rfl))) (pw_or1 (pt_not (pt_val (pe_callB (cr_all rfl) (by rfl) T.n_all (by decide +kernel) (pa_cons (pe_lc (own := [(("number" : Str), 1)]) (g := gName 1) (by rfl) sc__is_order.nd (Nv.pi_row (pv 0)) (blkOk_by (N := ["row", "number"]) (sc := defScope s__is_order) (by decide +kernel)) (fun _ _ _ _ _ => pg_name (i := 1) sc__is_order.nd rfl (by first | exact Or.inl rfl | exact Or.inr rfl)) (fun _ _ _ _ _ => pts_nil) (fun _ _ _ _ _ => (pe_call G_is_within (hr.mono (by decide)) (by rfl) D_is_within.m D_is_within.F.kp D_is_within.b .nil pass0 (pa_cons (pv 1) (pa_cons pe_int (pa_cons (pe_op op_sub (pe_callB (Nv.cr_lenSeq (K := K) rfl) (by rfl) T.n_len (by decide +kernel) (pa_cons (pv 0) pa_nil)) pe_int) pa_nil)))))) pa_nil)))))))
(pss_one (ps_ret pe_bl))
pss_nil)
(pss_one (ps_ret (pe_cmpR op_eq (pe_callB Nv.cr_lenS (by rfl) T.n_len (by decide +kernel) (pa_cons (pe_callTy (Nv.cr_setI rfl) (by rfl) T.n_set (by decide +kernel) (pa_cons (pv 0) pa_nil)) pa_nil)) (pe_callB (Nv.cr_lenSeq (K := K) rfl) (by rfl) T.n_len (by decide +kernel) (pa_cons (pv 0) pa_nil)) (nomark _))))), ?_⟩
    refine ⟨_, rfl, !xs.isEmpty, hq.elim (fun h => .inr (.inl ⟨_, h, rfl⟩)) (fun h => .inl ⟨_, h, rfl⟩), ?_⟩
    refine ifb (fun z => ?_) (fun z => ?_)
    · refine q false H (Same.refl H) ⟨fun h => absurd h Bool.false_ne_true, fun ⟨ns, e, o⟩ => ?_⟩
      have e0 : xs = [] := by cases xs with
        | nil => rfl
        | cons x xs => cases z
      rw [e0] at e
      cases ns with
      | nil => exact absurd rfl o.ne
      | cons n ns => cases e
    · have hne : xs ≠ [] := fun e => by rw [e] at z; cases z
      refine pNot (pB (pCB1 (lc_row (K := K) (a := a) (xs := xs) (fun x => .bl (wIn x (some 0) (some ((xs.length : Nat) - 1 : Int)))) (fun _ => true) hq (by omega) (fun _ => rfl) (fun R h => ⟨_, rfl, h⟩) (fun x H' R _ _ k => k H' (Same.refl H'))
        (fun x H' R hx _ s k => ⟨_, rfl, _, rfl, a, xs, rfl, lenR H' s, _, _, rfl, rfl, x, some 0, some _, rfl, (kn x hx).up s, k H' (Same.refl H')⟩) (fun p H1 np e1 s1 => ?_))))
      have e2 : (xs.filter fun _ => true).map (fun x => V.bl (wIn x (some 0) (some ((xs.length : Nat) - 1 : Int)))) = (xs.map fun x => wIn x (some 0) (some ((xs.length : Nat) - 1 : Int))).map V.bl := by
        rw [List.filter_eq_self.mpr (fun _ _ => rfl), List.map_map]
        rfl
      rw [e2] at e1
      refine ⟨p, _, rfl, SqL.of e1, _, rfl, ?_⟩
      have e3 : (xs.map fun x => wIn x (some 0) (some ((xs.length : Nat) - 1 : Int))).all id = xs.all fun x => wIn x (some 0) (some ((xs.length : Nat) - 1 : Int)) := by
        rw [List.all_map]
        rfl
      rw [e3]
      have lpos : 0 < xs.length := List.length_pos_iff.mpr hne
      refine ifb (fun z2 => ?_) (fun z2 => ?_)
      · refine q false H1 s1 ⟨fun h => absurd h Bool.false_ne_true, fun ⟨ns, e, o⟩ => ?_⟩
        have h3 : xs.all (fun x => wIn x (some 0) (some ((xs.length : Nat) - 1 : Int))) = true := by
          rw [e]
          refine all_of fun n hn => ?_
          have := o.lt n hn
          rw [iV_len]
          omega
        rw [h3] at z2
        cases z2
      · have h3 : xs.all (fun x => wIn x (some 0) (some ((xs.length : Nat) - 1 : Int))) = true := by
          cases h : xs.all (fun x => wIn x (some 0) (some ((xs.length : Nat) - 1 : Int))) with
          | true => rfl
          | false => rw [h] at z2; cases z2
        obtain ⟨ns, e, l⟩ := nats_of _ _ h3
        have ln : ns.length = xs.length := by rw [e, iV_len]
        have rI : SqL K H1 a ((ns.map fun n : Nat => (n : Int)).map V.int) ∨ SqT K H1 a ((ns.map fun n : Nat => (n : Int)).map V.int) := by
          rw [← iV_int, ← e]
          exact lenR H1 s1
        refine ⟨_, rfl, a, _, rfl, rI, by rw [List.length_map]; omega, fun t c H2 nt card lc e4 s2 => ?_⟩
        refine ⟨t, _, _, rfl, e4, _, rfl, a, xs, rfl, lenR H2 (s1.trans s2), rfl, ?_⟩
        refine q _ H2 (s1.trans s2) ?_
        have cn := card_nodup card
        rw [List.length_map] at cn
        rw [decide_eq_true_eq]
        constructor
        · intro h
          injection h with h
          have h : c = ns.length := by omega
          have nd := cn.mp h
          refine ⟨ns, e, fun z => hne (by rw [e, z]; rfl), fun n hn => ?_, ?_⟩
          · have := l n hn
            omega
          · exact (List.pairwise_map.mp nd).imp fun h e => h (by rw [e])
        · rintro ⟨ms, e5, o⟩
          have e6 : ns = ms := iV_inj (e.symm.trans e5)
          subst e6
          have nd : (ns.map fun n : Nat => (n : Int)).Nodup := List.pairwise_map.mpr (o.nd.imp fun h e => h (by omega))
          have := cn.mpr nd
          rw [this, ln]
end
end K17

set_option maxRecDepth 100000
set_option maxHeartbeats 4000000
namespace K17
open PySem PySem.Spec PyProof.Rows L2 Nv
/-! ### what is reached from 0 -/
inductive Rch (r u : List Nat) : Nat → Prop
  | zero : Rch r u 0
  | right {m k : Nat} : Rch r u m → r[m]? = some k → Rch r u k
  | up {m k : Nat} : Rch r u m → u[m]? = some k → Rch r u k
def All (r u : List Nat) : Prop := ∀ m, m < r.length → Rch r u m
theorem nodup_len : ∀ (l D : List Nat), l.Nodup → (∀ x ∈ l, x ∈ D) → l.length ≤ D.length
  | [], _, _, _ => Nat.zero_le _
  | x :: l, D, h, s => by
    obtain ⟨h1, h2⟩ := List.nodup_cons.mp h
    have hx := s x (List.mem_cons_self ..)
    have ih := nodup_len l (D.erase x) h2 fun y hy => by
      have ne : y ≠ x := fun e => h1 (e ▸ hy)
      exact (List.mem_erase_of_ne ne).mpr (s y (List.mem_cons_of_mem _ hy))
    have e := List.length_erase_of_mem hx
    have := List.length_pos_of_mem hx
    rw [List.length_cons]
    omega
/-- a list of what was found -/
structure Fnd (r u F : List Nat) : Prop where
  nd : F.Nodup
  lt : ∀ m ∈ F, m < r.length
  re : ∀ m ∈ F, Rch r u m
  z : 0 ∈ F
theorem Fnd.few {r u F : List Nat} (h : Fnd r u F) : F.length ≤ r.length := by
  have := nodup_len F (List.range r.length) h.nd fun x hx => List.mem_range.mpr (h.lt x hx)
  rwa [List.length_range] at this
theorem Fnd.snoc {r u F : List Nat} {k : Nat} (h : Fnd r u F) (hk : k ∉ F) (l : k < r.length) (e : Rch r u k) : Fnd r u (F ++ [k]) :=
  ⟨List.nodup_append.mpr ⟨h.nd, by simp, fun a ha b hb => by
    rw [List.mem_singleton] at hb
    exact fun z => hk (by rw [← hb, ← z]; exact ha)⟩, fun m hm => by
    rcases List.mem_append.mp hm with hm | hm
    · exact h.lt m hm
    · rw [List.mem_singleton.mp hm]; exact l, fun m hm => by
    rcases List.mem_append.mp hm with hm | hm
    · exact h.re m hm
    · rw [List.mem_singleton.mp hm]; exact e, List.mem_append_left _ h.z⟩
/-- whatever a found one leads to is found -/
def Closed (r u F : List Nat) (m : Nat) : Prop := (∀ k, r[m]? = some k → k ∈ F) ∧ ∀ k, u[m]? = some k → k ∈ F
theorem Fnd.all {r u F : List Nat} (h : Fnd r u F) (c : ∀ m ∈ F, Closed r u F m) : F.length = r.length ↔ All r u := by
  constructor
  · intro e m hm
    refine Classical.byContradiction fun no => ?_
    have nm : m ∉ F := fun z => no (h.re m z)
    have := nodup_len (m :: F) (List.range r.length) (List.nodup_cons.mpr ⟨nm, h.nd⟩) fun x hx => by
      rcases List.mem_cons.mp hx with rfl | hx
      · exact List.mem_range.mpr hm
      · exact List.mem_range.mpr (h.lt x hx)
    rw [List.length_cons, List.length_range] at this
    omega
  · intro a
    have sub : ∀ m, Rch r u m → m ∈ F := fun m hm => by
      induction hm with
      | zero => exact h.z
      | right _ e ih => exact (c _ ih).1 _ e
      | up _ e ih => exact (c _ ih).2 _ e
    have := nodup_len (List.range r.length) F List.nodup_range fun x hx => sub x (a x (List.mem_range.mp hx))
    rw [List.length_range] at this
    have := h.few
    omega
theorem Closed.more {r u F G : List Nat} {m : Nat} (c : Closed r u F m) : Closed r u (F ++ G) m := ⟨fun k e => List.mem_append_left _ (c.1 k e), fun k e => List.mem_append_left _ (c.2 k e)⟩
/-- the dict of what was seen -/
def sk (F : List Nat) : List (Key × V) := F.map fun m : Nat => (Sum.inl (m : Int), V.bl true)
theorem sk_none {k : Nat} : ∀ {F : List Nat}, k ∉ F → valV (sk F) (Sum.inl (k : Int)) = none
  | [], _ => rfl
  | m :: F, h => by
    have ne : ¬ (Sum.inl (m : Int) : Key) = Sum.inl (k : Int) := fun e => h (by
      injection e with e
      have : m = k := by omega
      rw [this]
      exact List.mem_cons_self ..)
    show valV ((Sum.inl (m : Int), V.bl true) :: sk F) _ = none
    rw [valV_neg ne]
    exact sk_none fun z => h (List.mem_cons_of_mem _ z)
theorem sk_some {k : Nat} : ∀ {F : List Nat}, k ∈ F → valV (sk F) (Sum.inl (k : Int)) = some (.bl true)
  | m :: F, h => by
    by_cases e : m = k
    · rw [e]
      exact valV_pos rfl
    · have ne : ¬ (Sum.inl (m : Int) : Key) = Sum.inl (k : Int) := fun z => e (by injection z with z; omega)
      show valV ((Sum.inl (m : Int), V.bl true) :: sk F) _ = _
      rw [valV_neg ne]
      exact sk_some ((List.mem_cons.mp h).resolve_left fun z => e z.symm)
theorem sk_put {k : Nat} {F : List Nat} (h : k ∉ F) : putK (sk F) (Sum.inl (k : Int)) (.bl true) = sk (F ++ [k]) := by
  have e := valV_any (Sum.inl (k : Int) : Key) (sk F)
  rw [sk_none h] at e
  unfold putK
  rw [e]
  unfold sk
  rw [List.map_append]
  rfl
/-- the state of the search -/
structure BF (r u : List Nat) (H : Hp) (f s : Addr) (F : List Nat) (H' : Hp) : Prop where
  sm : Same H H'
  ff : H' f = some (.lst (iV F))
  ss : H' s = some (.dK (sk F))
  nf : H f = none
  ns : H s = none
  ok : Fnd r u F
def spReach (K : PySem.W.Frag) : Sp := fun vs H Q _ => ∃ (a b : Addr) (r u : List Nat), vs = [.ref a, .ref b] ∧ Row K H a (iV r) ∧ Row K H b (iV u) ∧ Ord r ∧ Ord u ∧ r.length = u.length ∧ r.length ≤ 1000 ∧
  ∀ (c : Bool) (H' : Hp), Same H H' → (c = true ↔ All r u) → Q (.bl c) H'
theorem iV_get {ns : List Nat} {i k : Nat} (h : ns[i]? = some k) : (iV ns)[i]? = some (.int (k : Int)) := by
  unfold iV
  rw [List.getElem?_map, h]
  rfl
theorem Ord.get {ns : List Nat} (o : Ord ns) {i : Nat} (h : i < ns.length) : ∃ k, ns[i]? = some k ∧ k < ns.length := ⟨ns[i], List.getElem?_eq_getElem h, o.lt _ (List.getElem_mem h)⟩
theorem row_ix {K : PySem.W.Frag} {H : Hp} {a : Addr} {ns : List Nat} {i k : Nat} {Q : VK} (h : Row K H a (iV ns)) (e : ns[i]? = some k) (q : Q (.int (k : Int)) H) : rIx K (.ref a) (.int (i : Int)) H Q := ix_row h (atI_nat (iV_get e)) q
section
variable {P : Program} {w : World} {K : PySem.W.Frag} {mg : Str → Option Value} {base : Heap} {tk : Tok} {CS CB CF CT CM fE : Addr}
theorem ok_reach_all {f : Addr} {fd : FuncData} (F : Fun K "_reach_all" "_reach_all" s__reach_all f fd) (T : Txt K mg tk CS CB CF CT CM fE) : FnOk P w K mg base CX0 1 f fd ["right", "up"] (spReach K) := by
  refine F.ok sc__reach_all (fun vs H Q E h => ?_) (fun cdv A outer s H vs Q E hr h => ?_)
  · obtain ⟨a, b, r, u, rfl, _⟩ := h
    rfl
  · obtain ⟨a, b, r, u, rfl, ha, hb, or_, ou, hlen, few, q⟩ := h
    have hU1 : (A.deeper (envOfC "_reach_all" (defScope s__reach_all) s.heap.objs.size f cdv)).units + 1 < cLine := hu_of hr
    have big : (1000 : Nat) < sizeLine := by decide
    refine ⟨_, (pss_cons (Nv.ps_setN (i := 2) sc__reach_all.nd rfl (by first | exact Or.inl rfl | exact Or.inr rfl) (Nv.pe_lstN (pa_cons pe_int pa_nil)))
(pss_cons (Nv.ps_setN (i := 3) sc__reach_all.nd rfl (by first | exact Or.inl rfl | exact Or.inr rfl) (pe_disp (pps_cons pe_int pe_bl pps_nil) (by rfl) (by rfl) (fun z => by cases z) (by decide)))
(pss_cons (Nv.ps_setN (i := 4) sc__reach_all.nd rfl (by first | exact Or.inl rfl | exact Or.inr rfl) pe_int)
(pss_cons (ps_while PassesOwn.never (pt_cmpR op_lt (pv 4) (pe_callB (Nv.cr_lenSeq (K := K) rfl) (by rfl) T.n_len (by decide +kernel) (pa_cons (pv 2) pa_nil)) (nomark _))
(pss_cons (Nv.ps_setN (i := 5) sc__reach_all.nd rfl (by first | exact Or.inl rfl | exact Or.inr rfl) (pe_ix (Nv.ix_listK (K := K) rfl) (pv 2) (pv 4) (fun _ _ => rfl)))
(pss_cons (ps_for PassesOwn.never rfl (pi_tup (Nv.pe_tupN (pa_cons (pe_ix (Nv.ix_seqK (K := K) rfl) (pv 0) (pv 5) (fun _ _ => rfl)) (pa_cons (pe_ix (Nv.ix_seqK (K := K) rfl) (pv 1) (pv 5) (fun _ _ => rfl)) pa_nil)))) (Nv.pg_nameN (i := 6) sc__reach_all.nd rfl (by first | exact Or.inl rfl | exact Or.inr rfl))
(pss_one (ps_if (pt_cmp (pc_dnotin hU1 (pv 6) (pv 3)))
(pss_cons (ps_dput hU1 (pv 3) (pv 6) pe_bl (by rfl))
(pss_one (ps_expr (pe_bm PySem.F.plainAttrs_list PySem.F.slot_list_append PySem.F.type_list_append mt_append (pv 2) (pa_cons (pv 6) pa_nil)))))
pss_nil)))
(pss_one (ps_aug (i := 4) sc__reach_all.nd rfl (by first | exact Or.inl rfl | exact Or.inr rfl) pe_int ip_add)))))
(pss_one (ps_ret (pe_cmpR op_eq (pe_callB (Nv.cr_lenSeq (K := K) rfl) (by rfl) T.n_len (by decide +kernel) (pa_cons (pv 2) pa_nil)) (pe_callB (Nv.cr_lenSeq (K := K) rfl) (by rfl) T.n_len (by decide +kernel) (pa_cons (pv 0) pa_nil)) (nomark _)))))))), ?_⟩
    refine ⟨by show 1 ≤ sizeLine; decide, fun f0 H1 nf e1 s1 => fun σ0 c0 => ?_⟩
    obtain rfl : σ0 = [some (.ref a), some (.ref b), some (.ref f0), none, none, none, none] := c0
    refine fun s0 ns1 => ⟨upd_same, [(Sum.inl 0, .bl true)], rfl, by decide, fun σ1 c1 => fun σ2 c2 => ?_⟩
    subst c1
    obtain rfl : σ2 = [some (.ref a), some (.ref b), some (.ref f0), some (.ref s0), some (.int 0), none, none] := c2
    have ns : H s0 = none := s1.free ns1
    have fs : f0 ≠ s0 := ne_of_none e1 ns1
    have rpos : 0 < r.length := List.length_pos_iff.mpr or_.ne
    generalize hH2 : upd (upd H1 s0 (.dK [])) s0 (.dK (mergeK [] [((Sum.inl 0 : Key), V.bl true)])) = H2
    have bf0 : BF r u H f0 s0 [0] H2 := by
      refine ⟨fun c o e => ?_, ?_, ?_, nf, ns, ⟨by simp, fun m hm => ?_, fun m hm => ?_, by simp⟩⟩
      · rw [← hH2, upd_upd, upd_ne (ne_of_none e ns)]
        exact s1 _ _ e
      · rw [← hH2, upd_upd, upd_ne fs]
        exact e1
      · rw [← hH2, upd_same]
        rfl
      · rw [List.mem_singleton.mp hm]; exact rpos
      · rw [List.mem_singleton.mp hm]; exact .zero
    clear hH2
    refine ⟨fun n σ H' => ∃ (F : List Nat) (k : Nat) (v5 v6 : Option V), σ = [some (.ref a), some (.ref b), some (.ref f0), some (.ref s0), some (.int (k : Int)), v5, v6] ∧ BF r u H f0 s0 F H' ∧ k ≤ F.length ∧ (∀ i m, i < k → F[i]? = some m → Closed r u F m) ∧ n = r.length - k,
      ⟨_, [0], 0, _, _, rfl, bf0, Nat.zero_le _, fun i m h => absurd h (Nat.not_lt_zero i), rfl⟩, ?_⟩
    rintro n σ H3 ⟨G, k, v5, v6, rfl, bf, hk, cl, rfl⟩
    refine ⟨_, rfl, _, rfl, f0, iV G, rfl, .inl (SqL.of bf.ff), _, _, rfl, rfl, _, rfl, ifb (fun z => ?_) (fun z => ?_)⟩
    · have hlt : k < G.length := by
        have := of_decide_eq_true z
        rw [iV_len] at this
        omega
      have few2 := bf.ok.few
      refine ⟨fun σ' H' => ∃ (F : List Nat) (v5 v6 : Option V), σ' = [some (.ref a), some (.ref b), some (.ref f0), some (.ref s0), some (.int ((k + 1 : Nat) : Int)), v5, v6] ∧ BF r u H f0 s0 F H' ∧ k + 1 ≤ F.length ∧ (∀ i m, i < k + 1 → F[i]? = some m → Closed r u F m), ?_, ?_⟩
      · rintro σ' H' ⟨F2, w5, w6, e, b2, h2, c2⟩
        exact ⟨r.length - (k + 1), by omega, F2, k + 1, w5, w6, e, b2, h2, c2, rfl⟩
      · obtain ⟨m, hm⟩ : ∃ m, G[k]? = some m := ⟨G[k], List.getElem?_eq_getElem hlt⟩
        have hmr : m < r.length := bf.ok.lt m (List.mem_of_getElem? hm)
        obtain ⟨x, hx, lx⟩ := or_.get hmr
        obtain ⟨y, hy, ly⟩ := ou.get (i := m) (by omega)
        have rm := bf.ok.re m (List.mem_of_getElem? hm)
        refine ⟨_, rfl, _, rfl, f0, _, _, _, rfl, rfl, SqL.of bf.ff, atI_nat (iV_get hm), fun σ3 c3 => ?_⟩
        obtain rfl : σ3 = [some (.ref a), some (.ref b), some (.ref f0), some (.ref s0), some (.int (k : Int)), some (.int (m : Int)), v6] := c3
        refine ⟨_, rfl, _, rfl, row_ix (Same.row bf.sm ha) hx ⟨_, rfl, _, rfl, row_ix (Same.row bf.sm hb) hy ⟨by show 2 ≤ sizeLine; decide, fun t H4 nt et st => ⟨t, rfl, ⟨_, SqT.of et⟩, ?_⟩⟩⟩⟩
        refine for_tup (K := K) (a := t) (xs := [V.int (x : Int), V.int (y : Int)]) (fun j σ H' => ∃ (X : List Nat) (v6 : Option V), σ = [some (.ref a), some (.ref b), some (.ref f0), some (.ref s0), some (.int (k : Int)), some (.int (m : Int)), v6] ∧ BF r u H f0 s0 (G ++ X) H' ∧
          H' t = some (.tup [V.int (x : Int), V.int (y : Int)]) ∧ (1 ≤ j → x ∈ G ++ X) ∧ (2 ≤ j → y ∈ G ++ X)) ?_ ?_ ?_ ?_
        · exact ⟨[], v6, rfl, by rw [List.append_nil]; exact ⟨bf.sm.trans st, st _ _ bf.ff, st _ _ bf.ss, bf.nf, bf.ns, bf.ok⟩, et, fun h => absurd h (by decide), fun h => absurd h (by decide)⟩
        · rintro j σ H5 _ ⟨X, v6, _, _, e5, _⟩
          exact SqT.of e5
        · rintro j v σ H5 hv ⟨X, v6, rfl, b5, e5, j1, j2⟩
          have one : ∀ (o : Nat), v = .int (o : Int) → o < r.length → Rch r u o → (∀ Y, o ∈ G ++ Y → (∀ c, c ∈ G ++ X → c ∈ G ++ Y) → (1 ≤ j + 1 → x ∈ G ++ Y) ∧ (2 ≤ j + 1 → y ∈ G ++ Y)) → gNameN 6 v [some (.ref a), some (.ref b), some (.ref f0), some (.ref s0), some (.int (k : Int)), some (.int (m : Int)), v6] H5 fun σ2 H2 =>
              tIfS (tB (tDNotIn (tVar 6) (tVar 3))) (tSeq (sDPut (tVar 3) (tVar 6) (tC (V.bl true))) (tDrop (tBM K "list" rAppend (tVar 2) (tCons (tVar 6) tNil)))) tNext
                { nx := fun σ H' => ∃ (X : List Nat) (v6 : Option V), σ = [some (.ref a), some (.ref b), some (.ref f0), some (.ref s0), some (.int (k : Int)), some (.int (m : Int)), v6] ∧ BF r u H f0 s0 (G ++ X) H' ∧ H' t = some (.tup [V.int (x : Int), V.int (y : Int)]) ∧ (1 ≤ j + 1 → x ∈ G ++ X) ∧ (2 ≤ j + 1 → y ∈ G ++ X),
                  rt := Q, bk := fun _ _ => False, ct := fun _ _ => False } σ2 H2 := by
            intro o eo lo ro fin
            subst eo
            refine fun σ4 c4 => ?_
            obtain rfl : σ4 = [some (.ref a), some (.ref b), some (.ref f0), some (.ref s0), some (.int (k : Int)), some (.int (m : Int)), some (.int (o : Int))] := c4
            refine ⟨_, rfl, _, rfl, s0, _, rfl, DGet.k (k := Sum.inl (o : Int)) b5.ss, _, rfl, ifb (fun z => ?_) (fun z => ?_)⟩
            · have no : o ∉ G ++ X := fun h => by
                rw [sk_some h] at z
                cases z
              have f5 := b5.ok.few
              have ts : t ≠ s0 := ne_of e5 b5.ss (fun z => by cases z)
              have tf : t ≠ f0 := ne_of e5 b5.ff (fun z => by cases z)
              have hl : (sk (G ++ X)).length < sizeLine := by
                unfold sk
                rw [List.length_map]
                omega
              refine ⟨_, rfl, _, rfl, s0, _, rfl, DPut.k (k := Sum.inl (o : Int)) b5.ss hl, ?_⟩
              rw [sk_put no]
              have ff6 : (upd H5 s0 (.dK (sk (G ++ X ++ [o])))) f0 = some (.lst (iV (G ++ X))) := by rw [upd_ne fs]; exact b5.ff
              refine ⟨_, rfl, .inl ⟨rfl, _, SqL.of ff6⟩, _, rfl, f0, _, _, rfl, rfl, ff6, by rw [iV_len]; omega, X ++ [o], _, rfl, ⟨fun c ob e => ?_, ?_, ?_, nf, ns, ?_⟩, ?_, ?_⟩
              · rw [upd_ne (ne_of_none e nf), upd_ne (ne_of_none e ns)]
                exact b5.sm _ _ e
              · rw [upd_same, ← List.append_assoc]
                unfold iV
                rw [List.map_append (l₁ := G ++ X)]
                rfl
              · rw [upd_ne fs.symm, upd_same, ← List.append_assoc]
              · rw [← List.append_assoc]
                exact b5.ok.snoc no lo ro
              · rw [upd_ne tf, upd_ne ts]
                exact e5
              · exact fin _ (by simp) fun c hc => by
                  rw [← List.append_assoc]
                  exact List.mem_append_left _ hc
            · have yes : o ∈ G ++ X := Classical.byContradiction fun h => by
                rw [sk_none h] at z
                cases z
              exact ⟨X, _, rfl, b5, e5, fin X yes fun c hc => hc⟩
          match j, hv with
          | 0, hv =>
            cases hv
            exact one x rfl lx (.right rm hx) fun Y m1 _ => ⟨fun _ => m1, fun h => absurd h (by decide)⟩
          | 1, hv =>
            cases hv
            exact one y rfl (by omega) (.up rm hy) fun Y m1 sub => ⟨fun _ => sub _ (j1 (by decide)), fun _ => m1⟩
        · rintro σ H5 ⟨X, v6, rfl, b5, e5, j1, j2⟩
          refine ⟨_, rfl, _, _, rfl, rfl, G ++ X, _, _, rfl, b5, ?_, fun i c hi hc => ?_⟩
          · rw [List.length_append]; omega
          · by_cases e : i = k
            · subst e
              rw [List.getElem?_append_left hlt, hm] at hc
              cases hc
              exact ⟨fun p hp => by rw [hx] at hp; cases hp; exact j1 (by show 1 ≤ 2; decide), fun p hp => by rw [hy] at hp; cases hp; exact j2 (by show 2 ≤ 2; decide)⟩
            · rw [List.getElem?_append_left (by omega)] at hc
              exact (cl i c (by omega) hc).more
    · have hge : G.length ≤ k := by
        have := of_decide_eq_false z
        rw [iV_len] at this
        omega
      refine ⟨_, rfl, f0, _, rfl, .inl (SqL.of bf.ff), _, rfl, a, _, rfl, (Same.row bf.sm ha).elim .inr .inl, rfl, q _ H3 bf.sm ?_⟩
      rw [← bf.ok.all fun m hm => ?_, iV_len, iV_len, decide_eq_true_eq]
      · constructor
        · intro h
          injection h with h
          omega
        · intro h
          rw [h]
      · obtain ⟨i, hi⟩ := List.mem_iff_getElem?.mp hm
        have : i < G.length := (List.getElem?_eq_some_iff.mp hi).1
        exact cl i m (by omega) hi
end
end K17

set_option maxRecDepth 100000
set_option maxHeartbeats 4000000
namespace K17
open PySem PySem.Spec PyProof.Rows L2 Nv
abbrev s_Sheet_init : Stmt := inClass (topS 19) 0
theorem sc_Sheet_init : FnScope ["self", "right", "up", "corners", "n"] ["self", "right", "up", "corners"] (defScope s_Sheet_init) := ⟨rfl, rfl, rfl, by decide +kernel, rfl, by decide +kernel, by decide +kernel⟩
abbrev s_Sheet_eq : Stmt := inClass (topS 19) 1
theorem sc_Sheet_eq : FnScope ["self", "other"] ["self", "other"] (defScope s_Sheet_eq) := ⟨rfl, rfl, rfl, by decide +kernel, rfl, by decide +kernel, by decide +kernel⟩
/-! ### corners -/
def oneAt (r u : List Nat) (i : Nat) : Nat := u.getD (r.getD i 0) 0
def Bad (r u c : List Nat) (i : Nat) : Prop := oneAt r u i ≠ oneAt u r i ∧ (c[oneAt r u i]? = some 0 ∨ c[oneAt u r i]? = some 0)
def Corn (r u c : List Nat) : Prop := ∀ i, i < r.length → ¬ Bad r u c i
def spCorn (K : PySem.W.Frag) : Sp := fun vs H Q _ => ∃ (a b d : Addr) (r u c : List Nat), vs = [.ref a, .ref b, .ref d] ∧ Row K H a (iV r) ∧ Row K H b (iV u) ∧ Row K H d (iV c) ∧ Ord r ∧ Ord u ∧ r.length = u.length ∧ c.length = r.length ∧ r.length ≤ 1000 ∧
  ∀ x : Bool, (x = true ↔ Corn r u c) → Q (.bl x) H
theorem oneAt_lt {r u : List Nat} (o1 : Ord r) (o2 : Ord u) (l : r.length = u.length) {i : Nat} (h : i < r.length) : ∃ k, r[i]? = some k ∧ u[k]? = some (oneAt r u i) ∧ oneAt r u i < r.length := by
  obtain ⟨k, e, lk⟩ := o1.get h
  obtain ⟨m, e2, lm⟩ := o2.get (i := k) (by omega)
  have : oneAt r u i = m := by
    unfold oneAt
    rw [List.getD_eq_getElem?_getD, List.getD_eq_getElem?_getD, e]
    show (u[k]?).getD 0 = m
    rw [e2]
    rfl
  exact ⟨k, e, by rw [this]; exact e2, by omega⟩
theorem neV {a b : Nat} : (!decide (V.int (a : Int) = V.int (b : Int))) = true ↔ a ≠ b := by
  rw [Bool.not_eq_true', decide_eq_false_iff_not]
  constructor
  · intro h e
    exact h (by rw [e])
  · intro h e
    injection e with e
    omega
section
variable {P : Program} {w : World} {K : PySem.W.Frag} {mg : Str → Option Value} {base : Heap} {tk : Tok} {CS CB CF CT CM fE : Addr}
theorem ok_have_corners {f : Addr} {fd : FuncData} (F : Fun K "_have_corners" "_have_corners" s__have_corners f fd) (T : Txt K mg tk CS CB CF CT CM fE) : FnOk P w K mg base CX0 1 f fd ["right", "up", "corners"] (spCorn K) := by
  refine F.ok sc__have_corners (fun vs H Q E h => ?_) (fun cdv A outer s H vs Q E hr h => ?_)
  · obtain ⟨a, b, d, r, u, c, rfl, _⟩ := h
    rfl
  · obtain ⟨a, b, d, r, u, c, rfl, ha, hb, hd, o1, o2, l, lc, few, q⟩ := h
    refine ⟨_, (pss_cons (ps_for PassesOwn.never rfl (pi_range1 (by rfl) T.n_range (pa_cons (pe_callB (Nv.cr_lenSeq (K := K) rfl) (by rfl) T.n_len (by decide +kernel) (pa_cons (pv 0) pa_nil)) pa_nil)) (Nv.pg_nameN (i := 3) sc__have_corners.nd rfl (by first | exact Or.inl rfl | exact Or.inr rfl))
(pss_cons (Nv.ps_parN (i := 4) (j := 5) (by rfl) sc__have_corners.nd rfl rfl (by decide) rfl rfl (pa_cons (pe_ix (Nv.ix_seqK (K := K) rfl) (pv 1) (pe_ix (Nv.ix_seqK (K := K) rfl) (pv 0) (pv 3) (fun _ _ => rfl)) (fun _ _ => rfl)) (pa_cons (pe_ix (Nv.ix_seqK (K := K) rfl) (pv 0) (pe_ix (Nv.ix_seqK (K := K) rfl) (pv 1) (pv 3) (fun _ _ => rfl)) (fun _ _ => rfl)) pa_nil)) (by rfl))
(pss_one (ps_if (PW.pt (pw_and (pt_cmpR op_ne (pv 4) (pv 5) (nomark _)) (pw_and1 (PW.pt (pw_or (pt_cmpR op_eq (pe_ix (Nv.ix_seqK (K := K) rfl) (pv 2) (pv 4) (fun _ _ => rfl)) pe_int (nomark _)) (pw_or1 (pt_cmpR op_eq (pe_ix (Nv.ix_seqK (K := K) rfl) (pv 2) (pv 5) (fun _ _ => rfl)) pe_int (nomark _))))))))
(pss_one (ps_ret pe_bl))
pss_nil))))
(pss_one (ps_ret pe_bl))), ?_⟩
    refine ⟨_, rfl, a, _, rfl, ha.elim .inr .inl, (r.length : Int), by rw [iV_len], by omega, by omega, ?_⟩
    rw [show ((r.length : Int)).toNat = r.length from by omega]
    refine for_range (lo := 0) (n := r.length) (fun i σ H' => H' = H ∧ (∃ v3 v4 v5 : Option V, σ = [some (.ref a), some (.ref b), some (.ref d), v3, v4, v5]) ∧ ∀ j, j < i → ¬ Bad r u c j) ⟨rfl, ⟨_, _, _, rfl⟩, fun j h => absurd h (Nat.not_lt_zero j)⟩ ?_ ?_
    · rintro i σ H' hi ⟨rfl, ⟨v3, v4, v5, rfl⟩, good⟩
      obtain ⟨k, e1, e2, lt1⟩ := oneAt_lt o1 o2 l hi
      obtain ⟨m, e3, e4, lt2⟩ := oneAt_lt o2 o1 l.symm (i := i) (by omega)
      refine fun σ1 c1 => ?_
      obtain rfl : σ1 = [some (.ref a), some (.ref b), some (.ref d), some (.int (0 + (i : Int))), v4, v5] := c1
      rw [Int.zero_add]
      refine ⟨_, rfl, _, rfl, _, rfl, row_ix ha e1 (row_ix hb e2 ⟨_, rfl, _, rfl, _, rfl, row_ix hb e3 (row_ix ha e4 ⟨_, _, rfl, fun σ2 c2 => ?_⟩)⟩)⟩
      obtain rfl : σ2 = [some (.ref a), some (.ref b), some (.ref d), some (.int (i : Int)), some (.int ((oneAt r u i : Nat) : Int)), some (.int ((oneAt u r i : Nat) : Int))] := c2
      have next : ¬ Bad r u c i → ∀ j, j < i + 1 → ¬ Bad r u c j := fun nb j hj => by
        by_cases e : j = i
        · rw [e]; exact nb
        · exact good j (by omega)
      have bad : Bad r u c i → Q (.bl false) H' := fun nb => q false ⟨fun h => absurd h Bool.false_ne_true, fun h => absurd nb (h i hi)⟩
      obtain ⟨x, ex⟩ : ∃ x, c[oneAt r u i]? = some x := ⟨c[oneAt r u i]'(by omega), List.getElem?_eq_getElem (by omega)⟩
      obtain ⟨y, ey⟩ : ∃ y, c[oneAt u r i]? = some y := ⟨c[oneAt u r i]'(by omega), List.getElem?_eq_getElem (by omega)⟩
      refine ⟨_, rfl, _, rfl, rfl, _, rfl, ifb (fun z => ?_) (fun z => ?_)⟩
      · have ne := neV.mp z
        refine ⟨_, rfl, _, rfl, row_ix hd ex ⟨rfl, _, rfl, ifb (fun z2 => ?_) (fun z2 => ?_)⟩⟩
        · have e0 : x = 0 := by
            have := of_decide_eq_true z2
            injection this with this
            omega
          exact bad ⟨ne, .inl (by rw [ex, e0])⟩
        · refine ⟨_, rfl, _, rfl, row_ix hd ey ⟨rfl, _, rfl, ifb (fun z3 => ?_) (fun z3 => ?_)⟩⟩
          · have e0 : y = 0 := by
              have := of_decide_eq_true z3
              injection this with this
              omega
            exact bad ⟨ne, .inr (by rw [ey, e0])⟩
          · refine ⟨rfl, ⟨_, _, _, rfl⟩, next ?_⟩
            rintro ⟨_, h | h⟩
            · rw [ex] at h
              cases h
              exact of_decide_eq_false z2 rfl
            · rw [ey] at h
              cases h
              exact of_decide_eq_false z3 rfl
      · refine ⟨rfl, ⟨_, _, _, rfl⟩, next ?_⟩
        rintro ⟨ne, _⟩
        rw [neV.mpr ne] at z
        cases z
    · rintro σ H' ⟨rfl, ⟨v3, v4, v5, rfl⟩, good⟩
      exact q true ⟨fun _ i hi => good i hi, fun _ => rfl⟩
/-! ### the sheet -/
def fldS (ar au ac : Addr) (n : Nat) : List (Str × V) := putF "many" (.int (n : Int)) (putF "corners" (.ref ac) (putF "up" (.ref au) (putF "right" (.ref ar) [])))
theorem n_ur : ¬ (("up" : Str) = "right") := by decide +kernel
theorem n_cr : ¬ (("corners" : Str) = "right") := by decide +kernel
theorem n_cu : ¬ (("corners" : Str) = "up") := by decide +kernel
theorem n_mr : ¬ (("many" : Str) = "right") := by decide +kernel
theorem n_mu : ¬ (("many" : Str) = "up") := by decide +kernel
theorem n_mc : ¬ (("many" : Str) = "corners") := by decide +kernel
theorem fld_r (ar au ac : Addr) (n : Nat) : (fldS ar au ac n).lookup ("right" : Str) = some (.ref ar) := by
  unfold fldS
  rw [lookup_putF, if_neg (fun e => n_mr e.symm), lookup_putF, if_neg (fun e => n_cr e.symm), lookup_putF, if_neg (fun e => n_ur e.symm), lookup_putF, if_pos rfl]
theorem fld_u (ar au ac : Addr) (n : Nat) : (fldS ar au ac n).lookup ("up" : Str) = some (.ref au) := by
  unfold fldS
  rw [lookup_putF, if_neg (fun e => n_mu e.symm), lookup_putF, if_neg (fun e => n_cu e.symm), lookup_putF, if_pos rfl]
theorem fld_c (ar au ac : Addr) (n : Nat) : (fldS ar au ac n).lookup ("corners" : Str) = some (.ref ac) := by
  unfold fldS
  rw [lookup_putF, if_neg (fun e => n_mc e.symm), lookup_putF, if_pos rfl]
theorem fld_m (ar au ac : Addr) (n : Nat) : (fldS ar au ac n).lookup ("many" : Str) = some (.int (n : Int)) := by
  unfold fldS
  rw [lookup_putF, if_pos rfl]
/-- a sheet stands at p -/
def ShAt (CS : Addr) (H : Hp) (p : Addr) (r u c : List Nat) : Prop := ∃ (dx ar au ac : Addr), H p = some (.ins CS dx (fldS ar au ac r.length)) ∧ H ar = some (.tup (iV r)) ∧ H au = some (.tup (iV u)) ∧ H ac = some (.tup (iV c))
theorem ShAt.same {H H' : Hp} {p : Addr} {r u c : List Nat} (h : ShAt CS H p r u c) (e : Same H H') : ShAt CS H' p r u c := by
  obtain ⟨dx, ar, au, ac, h1, h2, h3, h4⟩ := h
  exact ⟨dx, ar, au, ac, e _ _ h1, e _ _ h2, e _ _ h3, e _ _ h4⟩
def pI (ns : List Nat) : List PyData := ns.map fun n : Nat => PyData.int (n : Int)
theorem dp_iV {H : Hp} : ∀ ns : List Nat, DpAll K H (iV ns) (pI ns)
  | [] => .nil
  | n :: ns => .cons (.int _) (dp_iV ns)
theorem shaped_tupI (ns : List Nat) : SeqAt.shaped (.tuple (pI ns)) = true := by
  have h := shaped_ints (ns.map fun n : Nat => (n : Int))
  have e : (ns.map fun n : Nat => (n : Int)).map PyData.int = pI ns := by
    unfold pI
    rw [List.map_map]
    rfl
  rw [e] at h
  unfold SeqAt.shaped at h ⊢
  have e1 : PyData.canLay0 (.tuple (pI ns)) = PyData.canLay0 (.list (pI ns)) := by simp only [PyData.canLay0]
  have e2 : PyData.depth (.tuple (pI ns)) = PyData.depth (.list (pI ns)) := by simp only [PyData.depth]
  rw [e1, e2]
  exact h
theorem eqv_int (m n : Nat) : PyData.eqv (.int (m : Int)) (.int (n : Int)) = decide (m = n) := by
  have e : PyData.eqv (.int (m : Int)) (.int (n : Int)) = ((m : Int) == (n : Int)) := by simp [PyData.eqv]
  rw [e]
  by_cases h : m = n
  · subst h; simp
  · have : (m : Int) ≠ (n : Int) := by omega
    simp [h, this]
theorem eqvAll_I : ∀ a b : List Nat, PyData.eqvAll (pI a) (pI b) = decide (a = b)
  | [], [] => by simp [pI, PyData.eqvAll]
  | [], _ :: _ => by simp [pI, PyData.eqvAll]
  | _ :: _, [] => by simp [pI, PyData.eqvAll]
  | x :: a, y :: b => by
    have ih := eqvAll_I a b
    have e : PyData.eqvAll (pI (x :: a)) (pI (y :: b)) = (PyData.eqv (.int (x : Int)) (.int (y : Int)) && PyData.eqvAll (pI a) (pI b)) := by simp [pI, PyData.eqvAll]
    rw [e, ih, eqv_int]
    by_cases h1 : x = y <;> by_cases h2 : a = b <;> simp [h1, h2]
theorem eqv_tupI (a b : List Nat) : PyData.eqv (.tuple (pI a)) (.tuple (pI b)) = decide (a = b) := by
  have e : PyData.eqv (.tuple (pI a)) (.tuple (pI b)) = PyData.eqvAll (pI a) (pI b) := by simp [PyData.eqv]
  rw [e, eqvAll_I]
theorem rd_eqT {H : Hp} {a b : Addr} {x y : List Nat} {Q : VK} (h1 : H a = some (.tup (iV x))) (h2 : H b = some (.tup (iV y))) (q : Q (.bl (decide (x = y))) H) : rEqD K (.ref a) (.ref b) H Q :=
  ⟨_, _, .tup (SqT.of h1) (dp_iV x), .tup (SqT.of h2) (dp_iV y), shaped_tupI x, shaped_tupI y, by rw [eqv_tupI]; exact q⟩
def spEqS (K : PySem.W.Frag) (CS : Addr) : Sp := fun vs H Q _ => ∃ (a : Addr) (y : V), vs = [.ref a, y] ∧
  ((∃ (b : Addr) (r u c r' u' c' : List Nat), y = .ref b ∧ ShAt CS H a r u c ∧ ShAt CS H b r' u' c' ∧ Q (.bl (decide (r = r' ∧ u = u' ∧ c = c'))) H) ∨ (∃ (b : Addr) (xs : List V), y = .ref b ∧ H b = some (.tup xs) ∧ Q (.bl false) H))
/-- what isinstance asks of the sheet's class -/
structure InC (K : PySem.W.Frag) (CS : Addr) : Prop where
  ha : PySem.W.findIn K (.ref CS) "__class__" = some (some (.builtin "object.__class__"))
  hn : PySem.W.specialIn K (.builtin "object.__class__") "__get__" = some (some (.builtin "getset_descriptor.__get__"))
  ht : PySem.W.takesIn K (.builtin "object.__class__") = some true
  hm : PySem.W.mroIn K CS (.type "object") = some true
theorem ok_Sheet_eq {f : Addr} {fd : FuncData} (F : Fun K "__eq__" "Sheet.__eq__" s_Sheet_eq f fd) (T : Txt K mg tk CS CB CF CT CM fE) (N : InC K CS) : FnOk P w K mg base CX0 1 f fd ["self", "other"] (spEqS K CS) := by
  refine F.ok sc_Sheet_eq (fun vs H Q E h => ?_) (fun cdv A outer s H vs Q E hr h => ?_)
  · obtain ⟨a, y, rfl, _⟩ := h
    rfl
  · obtain ⟨a, y, rfl, h⟩ := h
    refine ⟨_, (pss_cons (ps_if (pt_not (pt_val (pe_callB call_isi (by rfl) T.n_isinstance (by decide +kernel) (pa_cons (pv 1) (pa_cons (pe_glob (v := .ref _) (by rfl) T.g_Sheet rfl) pa_nil)))))
(pss_one (ps_ret pe_bl))
pss_nil)
(pss_one (ps_ret (pe_and (pe_cmpR (op_eqD hr.units) (pe_fld (pv 0) (by rfl)) (pe_fld (pv 1) (by rfl)) (nomark _)) (pe_and (pe_cmpR (op_eqD hr.units) (pe_fld (pv 0) (by rfl)) (pe_fld (pv 1) (by rfl)) (nomark _)) (pe_one (pe_cmpR (op_eqD hr.units) (pe_fld (pv 0) (by rfl)) (pe_fld (pv 1) (by rfl)) (nomark _)))))))), ?_⟩
    rcases h with ⟨b, r, u, c, r', u', c', rfl, ⟨dx, ar, au, ac, h1, h2, h3, h4⟩, ⟨dy, br, bu, bc, g1, g2, g3, g4⟩, q⟩ | ⟨b, xs, rfl, hb, q⟩
    · refine ⟨_, rfl, _, .ref CS, _, _, true, rfl, .own CS, .base (.ins g1 T.cl N.ha N.hn N.ht N.hm), T.kSS, _, rfl, ?_⟩
      refine iteF ⟨_, rfl, a, CS, dx, _, _, rfl, h1, T.cl, T.nR, fld_r .., _, rfl, b, CS, dy, _, _, rfl, g1, T.cl, T.nR, fld_r .., rd_eqT h2 g2 ⟨_, rfl, ifb (fun z => ?_) (fun z => ?_)⟩⟩
      · refine ⟨_, rfl, a, CS, dx, _, _, rfl, h1, T.cl, T.nU, fld_u .., _, rfl, b, CS, dy, _, _, rfl, g1, T.cl, T.nU, fld_u .., rd_eqT h3 g3 ⟨_, rfl, ifb (fun z2 => ?_) (fun z2 => ?_)⟩⟩
        · refine ⟨_, rfl, a, CS, dx, _, _, rfl, h1, T.cl, T.nC, fld_c .., _, rfl, b, CS, dy, _, _, rfl, g1, T.cl, T.nC, fld_c .., rd_eqT h4 g4 ?_⟩
          have e : decide (r = r' ∧ u = u' ∧ c = c') = decide (c = c') := by
            have e1 := of_decide_eq_true z
            have e2 := of_decide_eq_true z2
            simp [e1, e2]
          rw [e] at q
          exact q
        · have e : decide (r = r' ∧ u = u' ∧ c = c') = false := by
            have e2 := of_decide_eq_false z2
            simp [e2]
          rw [e] at q
          exact q
      · have e : decide (r = r' ∧ u = u' ∧ c = c') = false := by
          have e2 := of_decide_eq_false z
          simp [e2]
        rw [e] at q
        exact q
    · refine ⟨_, rfl, _, .ref CS, _, _, false, rfl, .own CS, .base (.tup hb), T.kTS, _, rfl, ?_⟩
      exact iteT q
end
end K17

set_option maxRecDepth 100000
set_option maxHeartbeats 8000000
namespace K17
open PySem PySem.Spec PyProof.Rows L2 Nv
/-! ### values handed to the sheet's class -/
/-- a list or tuple of these -/
def GoodRow (H : Hp) (x : V) (ns : List Nat) : Prop := ∃ s, Is H x s ∧ rowOf s = some (iV ns)
def NoOrd (H : Hp) (xs : List V) : Prop := (∀ v ∈ xs, Kn H v) ∧ ¬ ∃ ns, xs = iV ns ∧ Ord ns
def BadFirst (H : Hp) (x : V) : Prop := ∃ s, Is H x s ∧ ∀ xs, rowOf s = some xs → 400 < xs.length ∨ NoOrd H xs
def BadNext (H : Hp) (n : Nat) (x : V) : Prop := ∃ s, Is H x s ∧ ∀ xs, rowOf s = some xs → xs.length ≠ n ∨ NoOrd H xs
def BadCorn (H : Hp) (n : Nat) (x : V) : Prop := ∃ s, Is H x s ∧ ∀ xs, rowOf s = some xs → xs.length ≠ n ∨ ((∀ v ∈ xs, Kn H v) ∧ xs.all (fun v => wIn v (some 0) (some 1)) = false)
theorem GoodRow.same {H H' : Hp} {x : V} {ns : List Nat} (h : GoodRow H x ns) (e : Same H H') : GoodRow H' x ns := let ⟨s, h1, h2⟩ := h; ⟨s, h1.up e, h2⟩
theorem GoodRow.row {K : PySem.W.Frag} {H : Hp} {x : V} {ns : List Nat} (h : GoodRow H x ns) : ∃ a, x = .ref a ∧ Nv.Row K H a (iV ns) := by
  obtain ⟨s, h1, h2⟩ := h
  exact h1.row h2
theorem NoOrd.same {H H' : Hp} {xs : List V} (h : NoOrd H xs) (e : Same H H') : NoOrd H' xs := ⟨fun v hv => (h.1 v hv).up e, h.2⟩
theorem BadFirst.same {H H' : Hp} {x : V} (h : BadFirst H x) (e : Same H H') : BadFirst H' x := let ⟨s, h1, h2⟩ := h; ⟨s, h1.up e, fun xs hx => (h2 xs hx).imp id fun z => z.same e⟩
theorem BadNext.same {H H' : Hp} {n : Nat} {x : V} (h : BadNext H n x) (e : Same H H') : BadNext H' n x := let ⟨s, h1, h2⟩ := h; ⟨s, h1.up e, fun xs hx => (h2 xs hx).imp id fun z => z.same e⟩
theorem BadCorn.same {H H' : Hp} {n : Nat} {x : V} (h : BadCorn H n x) (e : Same H H') : BadCorn H' n x := let ⟨s, h1, h2⟩ := h; ⟨s, h1.up e, fun xs hx => (h2 xs hx).imp id fun z => ⟨fun v hv => (z.1 v hv).up e, z.2⟩⟩
/-- how Sheet(x, y, z) ends: R an error's class and part, or S a sheet -/
inductive Ends17 (H : Hp) (x y z : V) : Option (Bool × Str) → List Nat → List Nat → List Nat → Prop
  | right (h : BadFirst H x) : Ends17 H x y z (some (true, "right")) [] [] []
  | up {r : List Nat} (h : GoodRow H x r) (o : Ord r) (l : r.length ≤ 400) (h2 : BadNext H r.length y) : Ends17 H x y z (some (true, "up")) [] [] []
  | corners {r u : List Nat} (h : GoodRow H x r) (o : Ord r) (l : r.length ≤ 400) (h2 : GoodRow H y u) (o2 : Ord u) (l2 : u.length = r.length) (h3 : BadCorn H r.length z) : Ends17 H x y z (some (true, "corners")) [] [] []
  | apart {r u c : List Nat} (h : GoodRow H x r) (o : Ord r) (l : r.length ≤ 400) (h2 : GoodRow H y u) (o2 : Ord u) (l2 : u.length = r.length) (h3 : GoodRow H z c) (l3 : c.length = r.length) (b : ∀ n ∈ c, n ≤ 1) (no : ¬ All r u) : Ends17 H x y z (some (false, "up")) [] [] []
  | free {r u c : List Nat} (h : GoodRow H x r) (o : Ord r) (l : r.length ≤ 400) (h2 : GoodRow H y u) (o2 : Ord u) (l2 : u.length = r.length) (h3 : GoodRow H z c) (l3 : c.length = r.length) (b : ∀ n ∈ c, n ≤ 1) (ya : All r u) (no : ¬ Corn r u c) : Ends17 H x y z (some (false, "corners")) [] [] []
  | ok {r u c : List Nat} (h : GoodRow H x r) (o : Ord r) (l : r.length ≤ 400) (h2 : GoodRow H y u) (o2 : Ord u) (l2 : u.length = r.length) (h3 : GoodRow H z c) (l3 : c.length = r.length) (b : ∀ n ∈ c, n ≤ 1) (ya : All r u) (yc : Corn r u c) : Ends17 H x y z none r u c
def errOf (CB CF : Addr) (b : Bool) : Addr := if b then CB else CF
/-- Sheet(x, y, z): its __init__ at the new instance p -/
def spInit17 (CS CB CF : Addr) : Sp := fun vs H Q E => ∃ (p dx : Addr) (x y z : V) (o : Option (Bool × Str)) (r u c : List Nat), vs = [.ref p, x, y, z] ∧ H p = some (.ins CS dx []) ∧ Ends17 H x y z o r u c ∧
  match o with
  | some (b, part) => ∀ (d : Addr) (H' : Hp), Same H H' → H' d = some (.xd [("part", .str part)]) → E (.ref (errOf CB CF b)) (some d) H'
  | none => ∀ H' : Hp, (∀ b o, b ≠ p → H b = some o → H' b = some o) → ShAt CS H' p r u c → Q .non H'
theorem ord_len {ns : List Nat} (o : Ord ns) : 0 < ns.length := List.length_pos_iff.mpr o.ne
theorem row_kn {H : Hp} {ns : List Nat} : ∀ v ∈ iV ns, Kn H v := fun v hv => by
  unfold iV at hv
  obtain ⟨n, _, rfl⟩ := List.mem_map.mp hv
  exact ⟨_, .int _⟩
/-! ### the checks of a row -/
section
variable {K : PySem.W.Frag}
def tR (i : Nat) : TT := tB (tCall spRow [] E0 (tCons (tVar i) tNil))
def tO (K : PySem.W.Frag) (i : Nat) : TT := tB (tCall (spOrder K) [] E0 (tCons (tVar i) tNil))
theorem chk_row {H : Hp} {σ : L2.St} {i : Nat} {x : V} {s : Sh} {tL : TT} {R : Bool → Hp → Prop} (hx : σ[i]? = some (some x)) (hs : Is H x s) (ok : Nat → Bool) (hL : ∀ (a : Addr) (xs : List V) (H' : Hp) (R : Bool → Hp → Prop), x = .ref a → rowOf s = some xs → Nv.Row K H' a xs → Same H H' → R (ok xs.length) H' → tL σ H' R)
    (small : ∀ xs, rowOf s = some xs → ok xs.length = true → xs.length ≤ 1000 ∧ ∀ v ∈ xs, Kn H v) (q : ∀ (b : Bool) (H' : Hp), Same H H' → (b = true ↔ ∃ ns, rowOf s = some (iV ns) ∧ ok ns.length = true ∧ Ord ns) → R b H') : tAnd (tR i) (tAnd tL (tO K i)) σ H R := by
  refine ⟨_, hx, x, s, rfl, hs, fun H1 s1 => ⟨_, rfl, ?_⟩⟩
  cases e : rowOf s with
  | none => exact iteF (q false H1 s1 ⟨fun h => absurd h Bool.false_ne_true, fun ⟨ns, z, _⟩ => by rw [e] at z; cases z⟩)
  | some xs =>
    obtain ⟨a, rfl, hr⟩ := (hs.up s1).row (K := K) e
    refine iteT (hL a xs H1 _ rfl e hr s1 ?_)
    cases o : ok xs.length with
    | false =>
      refine iteF (q false H1 s1 ⟨fun h => absurd h Bool.false_ne_true, fun ⟨ns, z, z2, _⟩ => ?_⟩)
      rw [e] at z
      cases z
      rw [iV_len, z2] at o
      cases o
    | true =>
      obtain ⟨l, kn⟩ := small xs e o
      refine iteT ⟨_, hx, a, xs, rfl, hr, fun v hv => (kn v hv).up s1, l, fun b H2 s2 iff => ⟨b, rfl, q b H2 (s1.trans s2) ?_⟩⟩
      rw [iff]
      constructor
      · rintro ⟨ns, rfl, o2⟩
        exact ⟨ns, rfl.trans (by rw [e]), by rw [iV_len] at o; exact o, o2⟩
      · rintro ⟨ns, z, _, o2⟩
        rw [e] at z
        cases z
        exact ⟨ns, rfl, o2⟩
def tI1 (K : PySem.W.Frag) (i j : Nat) (ow : List Nat) : TT := tB (tCB (rAll K) (tCons (tLc (iRow K (tVar i)) (gName j) tYes (tCall spWithin [] E0 (tCons (tVar j) (tCons (tC (V.int 0)) (tCons (tC (V.int 1)) tNil)))) ow) tNil))
theorem chk_corn {H : Hp} {σ : L2.St} {i j : Nat} {x : V} {s : Sh} {tL : TT} {ow : List Nat} {R : Bool → Hp → Prop} (hx : σ[i]? = some (some x)) (hs : Is H x s) (ok : Nat → Bool) (hL : ∀ (a : Addr) (xs : List V) (H' : Hp) (R : Bool → Hp → Prop), x = .ref a → rowOf s = some xs → Nv.Row K H' a xs → Same H H' → R (ok xs.length) H' → tL σ H' R)
    (hw : ∀ v : V, wipe ((wipe σ ow).set j (some v)) ow = wipe σ ow) (hj : ∀ v : V, ((wipe σ ow).set j (some v))[j]? = some (some v))
    (small : ∀ xs, rowOf s = some xs → ok xs.length = true → xs.length ≤ 1000 ∧ ∀ v ∈ xs, Kn H v) (q : ∀ (b : Bool) (H' : Hp), Same H H' → (b = true ↔ ∃ xs, rowOf s = some xs ∧ ok xs.length = true ∧ xs.all (fun v => wIn v (some 0) (some 1)) = true) → R b H') : tAnd (tR i) (tAnd tL (tI1 K i j ow)) σ H R := by
  refine ⟨_, hx, x, s, rfl, hs, fun H1 s1 => ⟨_, rfl, ?_⟩⟩
  cases e : rowOf s with
  | none => exact iteF (q false H1 s1 ⟨fun h => absurd h Bool.false_ne_true, fun ⟨ns, z, _⟩ => by rw [e] at z; cases z⟩)
  | some xs =>
    obtain ⟨a, rfl, hr⟩ := (hs.up s1).row (K := K) e
    refine iteT (hL a xs H1 _ rfl e hr s1 ?_)
    cases o : ok xs.length with
    | false =>
      refine iteF (q false H1 s1 ⟨fun h => absurd h Bool.false_ne_true, fun ⟨ns, z, z2, _⟩ => ?_⟩)
      rw [e] at z
      cases z
      rw [z2] at o
      cases o
    | true =>
      obtain ⟨l, kn⟩ := small xs e o
      have big : (1000 : Nat) < sizeLine := by decide
      refine iteT (pB (pCB1 (lc_row (K := K) (a := a) (xs := xs) (i := j) (vs := ow) (fun v => .bl (wIn v (some 0) (some 1))) (fun _ => true) hr (by omega) hw (fun R h => ⟨_, hx, h⟩) (fun v H' R _ _ k => k H' (Same.refl H'))
        (fun v H' R hv _ s2 k => ⟨_, hj v, v, some 0, some 1, rfl, (kn v hv).up (s1.trans s2), k H' (Same.refl H')⟩) (fun p H2 np e2 s2 => ?_))))
      have e3 : (xs.filter fun _ => true).map (fun v => V.bl (wIn v (some 0) (some 1))) = (xs.map fun v => wIn v (some 0) (some 1)).map V.bl := by
        rw [List.filter_eq_self.mpr (fun _ _ => rfl), List.map_map]
        rfl
      rw [e3] at e2
      refine ⟨p, _, rfl, SqL.of e2, _, rfl, q _ H2 (s1.trans s2) ?_⟩
      have e4 : (xs.map fun v => wIn v (some 0) (some 1)).all id = xs.all fun v => wIn v (some 0) (some 1) := by
        rw [List.all_map]
        rfl
      rw [e4]
      constructor
      · intro h
        exact ⟨xs, by rw [e], o, h⟩
      · rintro ⟨ys, z, _, h⟩
        rw [e] at z
        cases z
        exact h
/-- tuple(x) -/
theorem tup_of {H : Hp} {σ : L2.St} {i : Nat} {x : V} {ns : List Nat} {R : VK} (hx : σ[i]? = some (some x)) (h : GoodRow H x ns) (q : ∀ (t : Addr) (H' : Hp), Same H H' → H' t = some (.tup (iV ns)) → R (.ref t) H') : tCB (rTupN K) (tCons (tVar i) tNil) σ H R := by
  obtain ⟨s, h1, h2⟩ := h
  refine ⟨_, hx, ?_⟩
  cases h1 with
  | lst e => cases h2; exact ⟨_, _, rfl, .inl ⟨SqL.of e, fun t H' _ e2 s2 => q t H' s2 e2⟩⟩
  | tup e => cases h2; exact ⟨_, _, rfl, .inr ⟨SqT.of e, q _ H (Same.refl H) e⟩⟩
  | non => cases h2
  | bl b => cases h2
  | int b => cases h2
  | str b => cases h2
  | dic b => cases h2
theorem GoodRow.keep {H H' : Hp} {p C dx : Addr} {fs : List (Str × V)} {x : V} {ns : List Nat} (h : GoodRow H x ns) (hp : H p = some (.ins C dx fs)) (k : Keep p H H') : GoodRow H' x ns := by
  obtain ⟨s, h1, h2⟩ := h
  cases h1 with
  | lst e => exact ⟨_, .lst (k _ _ (ne_of e hp fun z => by cases z) e), h2⟩
  | tup e => exact ⟨_, .tup (k _ _ (ne_of e hp fun z => by cases z) e), h2⟩
  | non => cases h2
  | bl b => cases h2
  | int b => cases h2
  | str b => cases h2
  | dic b => cases h2
end
theorem few1 (f : Str) (v : V) : (putF f v []).length < 1000 := Nat.lt_of_le_of_lt (length_putF f v []) (by show 0 + 1 < 1000; decide)
theorem few2 (f g : Str) (v w : V) : (putF f v (putF g w [])).length < 1000 := by
  have h1 := length_putF f v (putF g w [])
  have h2 := length_putF g w []
  have h3 : ([] : List (Str × V)).length = 0 := rfl
  omega
theorem few3 (f g e : Str) (v w x : V) : (putF f v (putF g w (putF e x []))).length < 1000 := by
  have h0 := length_putF f v (putF g w (putF e x []))
  have h1 := length_putF g w (putF e x [])
  have h2 := length_putF e x []
  have h3 : ([] : List (Str × V)).length = 0 := rfl
  omega
def tL1 (K : PySem.W.Frag) : TT := tTest (tOp (rI0 fun i j => V.bl (decide (i ≤ j))) (tCB (rLenSeq K) (tCons (tVar 1) tNil)) (tC (V.int 400)))
def tL2 (K : PySem.W.Frag) (i : Nat) : TT := tTest (tOp rEq (tCB (rLenSeq K) (tCons (tVar i) tNil)) (tCB (rLenSeq K) (tCons (tVar 1) tNil)))
section
variable {K : PySem.W.Frag} {H : Hp} {σ : L2.St} {x y z : V} {r u c : List Nat} {R : Bool → Hp → Prop}
theorem len1 (hx : σ[1]? = some (some x)) (s : Sh) (a : Addr) (xs : List V) (H' : Hp) (R : Bool → Hp → Prop) (e : x = .ref a) (_ : rowOf s = some xs) (hr : Nv.Row K H' a xs) (_ : Same H H') (q : R (decide (((xs.length : Nat) : Int) ≤ 400)) H') : tL1 K σ H' R := by
  subst e
  exact ⟨_, hx, a, xs, rfl, hr.elim .inr .inl, _, _, rfl, rfl, _, rfl, q⟩
theorem len2 {i : Nat} (hy : σ[i]? = some (some y)) (hx : σ[1]? = some (some x)) (g : GoodRow H x r) (s : Sh) (a : Addr) (xs : List V) (H' : Hp) (R : Bool → Hp → Prop) (e : y = .ref a) (_ : rowOf s = some xs) (hr : Nv.Row K H' a xs) (sm : Same H H') (q : R (decide (V.int ((xs.length : Nat) : Int) = V.int ((r.length : Nat) : Int))) H') : tL2 K i σ H' R := by
  subst e
  obtain ⟨b, rfl, hb⟩ := (g.same sm).row (K := K)
  refine ⟨_, hy, a, xs, rfl, hr.elim .inr .inl, _, hx, b, _, rfl, hb.elim .inr .inl, rfl, _, rfl, ?_⟩
  rw [iV_len]
  exact q
theorem eqN {m n : Nat} : decide (V.int (m : Int) = V.int (n : Int)) = true ↔ m = n := by
  rw [decide_eq_true_eq]
  constructor
  · intro h
    injection h with h
    omega
  · intro h
    rw [h]
theorem first_ok (hx : σ[1]? = some (some x)) (h : GoodRow H x r) (o : Ord r) (l : r.length ≤ 400) (q : ∀ H', Same H H' → R true H') : tAnd (tR 1) (tAnd (tL1 K) (tO K 1)) σ H R := by
  obtain ⟨s, h1, h2⟩ := h
  refine chk_row hx h1 (fun n => decide ((n : Int) ≤ 400)) (len1 hx s) (fun xs e ok => ?_) (fun b H1 s1 iff => ?_)
  · rw [h2] at e
    cases e
    exact ⟨by rw [iV_len]; omega, row_kn⟩
  · have e : b = true := iff.mpr ⟨r, h2, by rw [decide_eq_true_eq]; omega, o⟩
    rw [e]
    exact q H1 s1
theorem first_bad (hx : σ[1]? = some (some x)) (h : BadFirst H x) (q : ∀ H', Same H H' → R false H') : tAnd (tR 1) (tAnd (tL1 K) (tO K 1)) σ H R := by
  obtain ⟨s, h1, h2⟩ := h
  refine chk_row hx h1 (fun n => decide ((n : Int) ≤ 400)) (len1 hx s) (fun xs e ok => ?_) (fun b H1 s1 iff => ?_)
  · have ok := of_decide_eq_true ok
    rcases h2 xs e with z | z
    · omega
    · exact ⟨by omega, z.1⟩
  · cases b with
    | false => exact q H1 s1
    | true =>
      obtain ⟨ns, e, l, o⟩ := iff.mp rfl
      have l := of_decide_eq_true l
      rcases h2 _ e with z | z
      · rw [iV_len] at z
        omega
      · exact absurd ⟨ns, rfl, o⟩ z.2
theorem next_ok (hx : σ[1]? = some (some x)) (hy : σ[2]? = some (some y)) (g : GoodRow H x r) (few : r.length ≤ 400) (h : GoodRow H y u) (o : Ord u) (l : u.length = r.length) (q : ∀ H', Same H H' → R true H') : tAnd (tR 2) (tAnd (tL2 K 2) (tO K 2)) σ H R := by
  obtain ⟨s, h1, h2⟩ := h
  refine chk_row hy h1 (fun n => decide (V.int (n : Int) = V.int (r.length : Int))) (len2 hy hx g s) (fun xs e ok => ?_) (fun b H1 s1 iff => ?_)
  · rw [h2] at e
    cases e
    exact ⟨by rw [iV_len]; omega, row_kn⟩
  · have e : b = true := iff.mpr ⟨u, h2, eqN.mpr l, o⟩
    rw [e]
    exact q H1 s1
theorem next_bad (hx : σ[1]? = some (some x)) (hy : σ[2]? = some (some y)) (g : GoodRow H x r) (few : r.length ≤ 400) (h : BadNext H r.length y) (q : ∀ H', Same H H' → R false H') : tAnd (tR 2) (tAnd (tL2 K 2) (tO K 2)) σ H R := by
  obtain ⟨s, h1, h2⟩ := h
  refine chk_row hy h1 (fun n => decide (V.int (n : Int) = V.int (r.length : Int))) (len2 hy hx g s) (fun xs e ok => ?_) (fun b H1 s1 iff => ?_)
  · have ok := eqN.mp ok
    rcases h2 xs e with z | z
    · exact absurd ok z
    · exact ⟨by omega, z.1⟩
  · cases b with
    | false => exact q H1 s1
    | true =>
      obtain ⟨ns, e, l, o⟩ := iff.mp rfl
      have l := eqN.mp l
      rcases h2 _ e with z | z
      · rw [iV_len] at z
        exact absurd l z
      · exact absurd ⟨ns, rfl, o⟩ z.2
theorem corn_ok {j : Nat} {ow : List Nat} (hw : ∀ v : V, wipe ((wipe σ ow).set j (some v)) ow = wipe σ ow) (hj : ∀ v : V, ((wipe σ ow).set j (some v))[j]? = some (some v)) (hx : σ[1]? = some (some x)) (hz : σ[3]? = some (some z)) (g : GoodRow H x r) (few : r.length ≤ 400) (h : GoodRow H z c) (l : c.length = r.length) (bd : ∀ n ∈ c, n ≤ 1) (q : ∀ H', Same H H' → R true H') : tAnd (tR 3) (tAnd (tL2 K 3) (tI1 K 3 j ow)) σ H R := by
  obtain ⟨s, h1, h2⟩ := h
  refine chk_corn hz h1 (fun n => decide (V.int (n : Int) = V.int (r.length : Int))) (len2 hz hx g s) hw hj (fun xs e ok => ?_) (fun b H1 s1 iff => ?_)
  · rw [h2] at e
    cases e
    exact ⟨by rw [iV_len]; omega, row_kn⟩
  · have e : b = true := iff.mpr ⟨_, h2, by rw [iV_len]; exact eqN.mpr l, all_of fun n hn => by have := bd n hn; omega⟩
    rw [e]
    exact q H1 s1
theorem corn_bad {j : Nat} {ow : List Nat} (hw : ∀ v : V, wipe ((wipe σ ow).set j (some v)) ow = wipe σ ow) (hj : ∀ v : V, ((wipe σ ow).set j (some v))[j]? = some (some v)) (hx : σ[1]? = some (some x)) (hz : σ[3]? = some (some z)) (g : GoodRow H x r) (few : r.length ≤ 400) (h : BadCorn H r.length z) (q : ∀ H', Same H H' → R false H') : tAnd (tR 3) (tAnd (tL2 K 3) (tI1 K 3 j ow)) σ H R := by
  obtain ⟨s, h1, h2⟩ := h
  refine chk_corn hz h1 (fun n => decide (V.int (n : Int) = V.int (r.length : Int))) (len2 hz hx g s) hw hj (fun xs e ok => ?_) (fun b H1 s1 iff => ?_)
  · have ok := eqN.mp ok
    rcases h2 xs e with z | z
    · exact absurd ok z
    · exact ⟨by omega, z.1⟩
  · cases b with
    | false => exact q H1 s1
    | true =>
      obtain ⟨xs, e, l, o⟩ := iff.mp rfl
      have l := eqN.mp l
      rcases h2 _ e with z | z
      · exact absurd l z
      · rw [z.2] at o
        cases o
theorem pEls {A : Prop} {rest : TS} {D : Ends} (h : rest D σ H) : if (!true) = true then A else tNext { D with nx := rest D } σ H := iteF h
theorem pSeqIf {c : TT} {t v rest : TS} {D : Ends} (h : c σ H fun b H1 => if b = true then t { D with nx := rest D } σ H1 else v { D with nx := rest D } σ H1) : tSeq (tIfS c t v) rest D σ H := h
end
section
variable {P : Program} {w : World} {K : PySem.W.Frag} {mg : Str → Option Value} {base : Heap} {tk : Tok} {CS CB CF CT CM fE : Addr}
theorem ok_Sheet_init {f fR fO fA fC fI fW fB fF : Addr} {fd dR dO dA dC dI dW dB dF : FuncData} (F : Fun K "__init__" "Sheet.__init__" s_Sheet_init f fd) (D_is_row : Df K mg "is_row" s_is_row ["value"] fR dR) (D__is_order : Df K mg "_is_order" s__is_order ["row"] fO dO)
    (D__reach_all : Df K mg "_reach_all" s__reach_all ["right", "up"] fA dA) (D__have_corners : Df K mg "_have_corners" s__have_corners ["right", "up", "corners"] fC dC) (D_is_integer : Df K mg "is_integer" s_is_integer ["value"] fI dI)
    (D_is_within : Df K mg "is_within" s_is_within ["value", "least", "most"] fW dW) (E_BadSheet : ErrC K mg "BadSheet" CB fB dB "BadSheet.__init__" s_BadSheet_init ["self", "part"]) (E_Misfit : ErrC K mg "Misfit" CF fF dF "Misfit.__init__" s_Misfit_init ["self", "part"]) (T : Txt K mg tk CS CB CF CT CM fE) :
    FnOk P w K mg base (L2.CX P w) 4 f fd ["self", "right", "up", "corners"] (spInit17 CS CB CF) := by
  have G_is_row : FnOk P w K mg base CX0 1 fR dR ["value"] spRow := ok_is_row D_is_row.F T
  have G_is_within : FnOk P w K mg base CX0 2 fW dW ["value", "least", "most"] spWithin := ok_is_within D_is_within.F D_is_integer T
  have G__is_order : FnOk P w K mg base CX0 3 fO dO ["row"] (spOrder K) := ok_is_order D__is_order.F D_is_within D_is_integer T
  have G__reach_all : FnOk P w K mg base CX0 1 fA dA ["right", "up"] (spReach K) := ok_reach_all D__reach_all.F T
  have G__have_corners : FnOk P w K mg base CX0 1 fC dC ["right", "up", "corners"] (spCorn K) := ok_have_corners D__have_corners.F T
  have GE_BadSheet : FnOk P w K mg base CX0 1 fB dB ["self", "part"] (spErr K CB "part") := ok_BadSheet E_BadSheet
  have GE_Misfit : FnOk P w K mg base CX0 1 fF dF ["self", "part"] (spErr K CF "part") := ok_Misfit E_Misfit
  refine F.okX sc_Sheet_init (fun vs H Q E h => ?_) (fun cdv A outer s H vs Q E hr h => ?_)
  · obtain ⟨p, dx, x, y, z, o, r, u, c, rfl, _⟩ := h
    rfl
  · obtain ⟨p, dx, x, y, z, o, r, u, c, rfl, hp, hends, q⟩ := h
    have big : (1000 : Nat) < sizeLine := by decide
    refine ⟨_, (pss_cons (ps_if (pt_not (PW.pt (pw_and (pt_val (pe_call G_is_row (hr.mono (by decide)) (by rfl) D_is_row.m D_is_row.F.kp D_is_row.b .nil pass0 (pa_cons (pv 1) pa_nil))) (pw_and (pt_cmpR op_le (pe_callB (Nv.cr_lenSeq (K := K) rfl) (by rfl) T.n_len (by decide +kernel) (pa_cons (pv 1) pa_nil)) (pe_glob (v := .int _) (by rfl) T.c_MOST_IN_SHEET ⟨_, rfl⟩) (nomark _)) (pw_and1 (pt_val (pe_call G__is_order (hr.mono (by decide)) (by rfl) D__is_order.m D__is_order.F.kp D__is_order.b .nil pass0 (pa_cons (pv 1) pa_nil))))))))
(pss_one (ps_raise (by rfl) (takes_of rfl rfl rfl rfl) (pmk_oex E_BadSheet.O E_BadSheet.iC E_BadSheet.tI GE_BadSheet (hr.mono (by decide)) E_BadSheet.b .nil pass0 (by rfl) E_BadSheet.m (pa_cons pe_str pa_nil))))
pss_nil)
(pss_cons (ps_if (pt_not (PW.pt (pw_and (pt_val (pe_call G_is_row (hr.mono (by decide)) (by rfl) D_is_row.m D_is_row.F.kp D_is_row.b .nil pass0 (pa_cons (pv 2) pa_nil))) (pw_and (pt_cmpR op_eq (pe_callB (Nv.cr_lenSeq (K := K) rfl) (by rfl) T.n_len (by decide +kernel) (pa_cons (pv 2) pa_nil)) (pe_callB (Nv.cr_lenSeq (K := K) rfl) (by rfl) T.n_len (by decide +kernel) (pa_cons (pv 1) pa_nil)) (nomark _)) (pw_and1 (pt_val (pe_call G__is_order (hr.mono (by decide)) (by rfl) D__is_order.m D__is_order.F.kp D__is_order.b .nil pass0 (pa_cons (pv 2) pa_nil))))))))
(pss_one (ps_raise (by rfl) (takes_of rfl rfl rfl rfl) (pmk_oex E_BadSheet.O E_BadSheet.iC E_BadSheet.tI GE_BadSheet (hr.mono (by decide)) E_BadSheet.b .nil pass0 (by rfl) E_BadSheet.m (pa_cons pe_str pa_nil))))
pss_nil)
(pss_cons (ps_if (pt_not (PW.pt (pw_and (pt_val (pe_call G_is_row (hr.mono (by decide)) (by rfl) D_is_row.m D_is_row.F.kp D_is_row.b .nil pass0 (pa_cons (pv 3) pa_nil))) (pw_and (pt_cmpR op_eq (pe_callB (Nv.cr_lenSeq (K := K) rfl) (by rfl) T.n_len (by decide +kernel) (pa_cons (pv 3) pa_nil)) (pe_callB (Nv.cr_lenSeq (K := K) rfl) (by rfl) T.n_len (by decide +kernel) (pa_cons (pv 1) pa_nil)) (nomark _)) (pw_and1 (pt_val (pe_callB (cr_all rfl) (by rfl) T.n_all (by decide +kernel) (pa_cons (pe_lc (own := [(("n" : Str), 4)]) (g := gName 4) (by rfl) sc_Sheet_init.nd (Nv.pi_row (pv 3)) (blkOk_by (N := ["self", "right", "up", "corners", "n"]) (sc := defScope s_Sheet_init) (by decide +kernel)) (fun _ _ _ _ _ => pg_name (i := 4) sc_Sheet_init.nd rfl (by first | exact Or.inl rfl | exact Or.inr rfl)) (fun _ _ _ _ _ => pts_nil) (fun _ _ _ _ _ => (pe_call G_is_within (hr.mono (by decide)) (by rfl) D_is_within.m D_is_within.F.kp D_is_within.b .nil pass0 (pa_cons (pv 4) (pa_cons pe_int (pa_cons pe_int pa_nil)))))) pa_nil))))))))
(pss_one (ps_raise (by rfl) (takes_of rfl rfl rfl rfl) (pmk_oex E_BadSheet.O E_BadSheet.iC E_BadSheet.tI GE_BadSheet (hr.mono (by decide)) E_BadSheet.b .nil pass0 (by rfl) E_BadSheet.m (pa_cons pe_str pa_nil))))
pss_nil)
(pss_cons (ps_if (pt_not (pt_val (pe_call G__reach_all (hr.mono (by decide)) (by rfl) D__reach_all.m D__reach_all.F.kp D__reach_all.b .nil pass0 (pa_cons (pv 1) (pa_cons (pv 2) pa_nil)))))
(pss_one (ps_raise (by rfl) (takes_of rfl rfl rfl rfl) (pmk_oex E_Misfit.O E_Misfit.iC E_Misfit.tI GE_Misfit (hr.mono (by decide)) E_Misfit.b .nil pass0 (by rfl) E_Misfit.m (pa_cons pe_str pa_nil))))
pss_nil)
(pss_cons (ps_if (pt_not (pt_val (pe_call G__have_corners (hr.mono (by decide)) (by rfl) D__have_corners.m D__have_corners.F.kp D__have_corners.b .nil pass0 (pa_cons (pv 1) (pa_cons (pv 2) (pa_cons (pv 3) pa_nil))))))
(pss_one (ps_raise (by rfl) (takes_of rfl rfl rfl rfl) (pmk_oex E_Misfit.O E_Misfit.iC E_Misfit.tI GE_Misfit (hr.mono (by decide)) E_Misfit.b .nil pass0 (by rfl) E_Misfit.m (pa_cons pe_str pa_nil))))
pss_nil)
(pss_cons (ps_fld (pv 0) (pe_callTy Nv.cr_tupN (by rfl) T.n_tuple (by decide +kernel) (pa_cons (pv 1) pa_nil)) (by rfl))
(pss_cons (ps_fld (pv 0) (pe_callTy Nv.cr_tupN (by rfl) T.n_tuple (by decide +kernel) (pa_cons (pv 2) pa_nil)) (by rfl))
(pss_cons (ps_fld (pv 0) (pe_callTy Nv.cr_tupN (by rfl) T.n_tuple (by decide +kernel) (pa_cons (pv 3) pa_nil)) (by rfl))
(pss_one (ps_fld (pv 0) (pe_callB (Nv.cr_lenSeq (K := K) rfl) (by rfl) T.n_len (by decide +kernel) (pa_cons (pe_fld (pv 0) (by rfl)) pa_nil)) (by rfl))))))))))), ?_⟩
    have hw : ∀ v : V, wipe ((wipe [some (.ref p), some x, some y, some z, none] [4]).set 4 (some v)) [4] = wipe [some (.ref p), some x, some y, some z, none] [4] := fun _ => rfl
    have hj : ∀ v : V, ((wipe [some (.ref p), some x, some y, some z, none] [4]).set 4 (some v))[4]? = some (some v) := fun _ => rfl
    show tSeq _ _ _ [some (.ref p), some x, some y, some z, none] H
    cases hends with
    | right h =>
      refine pSeqIf (pNot (first_bad (K := K) (σ := [some (.ref p), some x, some y, some z, none]) rfl h fun H1 s1 => iteT ?_))
      exact mk_err E_BadSheet.O T.npB (fun R h => h) fun d H2 _ e s => q d H2 (s1.trans s) e
    | up h o l h2 =>
      refine pSeqIf (pNot (first_ok (K := K) (σ := [some (.ref p), some x, some y, some z, none]) rfl h o l fun H1 s1 => pEls ?_))
      refine pSeqIf (pNot (next_bad (K := K) (σ := [some (.ref p), some x, some y, some z, none]) rfl rfl (h.same s1) l (h2.same s1) fun H2 s2 => iteT ?_))
      exact mk_err E_BadSheet.O T.npB (fun R h => h) fun d H2 _ e s => q d H2 ((s1.trans s2).trans s) e
    | corners h o l h2 o2 l2 h3 =>
      refine pSeqIf (pNot (first_ok (K := K) (σ := [some (.ref p), some x, some y, some z, none]) rfl h o l fun H1 s1 => pEls ?_))
      refine pSeqIf (pNot (next_ok (K := K) (σ := [some (.ref p), some x, some y, some z, none]) rfl rfl (h.same s1) l (h2.same s1) o2 l2 fun H2 s2 => pEls ?_))
      have s12 := s1.trans s2
      refine pSeqIf (pNot (corn_bad (K := K) (σ := [some (.ref p), some x, some y, some z, none]) hw hj rfl rfl (h.same s12) l (h3.same s12) fun H3 s3 => iteT ?_))
      exact mk_err E_BadSheet.O T.npB (fun R h => h) fun d H2 _ e s => q d H2 ((s12.trans s3).trans s) e
    | @apart r u c h o l h2 o2 l2 h3 l3 b no =>
      refine pSeqIf (pNot (first_ok (K := K) (σ := [some (.ref p), some x, some y, some z, none]) rfl h o l fun H1 s1 => pEls ?_))
      refine pSeqIf (pNot (next_ok (K := K) (σ := [some (.ref p), some x, some y, some z, none]) rfl rfl (h.same s1) l (h2.same s1) o2 l2 fun H2 s2 => pEls ?_))
      have s12 := s1.trans s2
      refine pSeqIf (pNot (corn_ok (K := K) (σ := [some (.ref p), some x, some y, some z, none]) hw hj rfl rfl (h.same s12) l (h3.same s12) l3 b fun H3 s3 => pEls ?_))
      have s13 := s12.trans s3
      obtain ⟨ax, rfl, rx⟩ := (h.same s13).row (K := K)
      obtain ⟨ay, rfl, ry⟩ := (h2.same s13).row (K := K)
      refine pSeqIf (pNot ⟨_, rfl, _, rfl, ax, ay, r, u, rfl, rx, ry, o, o2, l2.symm, by omega, fun b H4 s4 iff => ⟨b, rfl, ?_⟩⟩)
      have eb : b = false := Bool.eq_false_iff.mpr fun h => no (iff.mp h)
      subst eb
      exact iteT (mk_err E_Misfit.O T.npF (fun R h => h) fun d H2 _ e s => q d H2 ((s13.trans s4).trans s) e)
    | @free r u c h o l h2 o2 l2 h3 l3 b ya no =>
      refine pSeqIf (pNot (first_ok (K := K) (σ := [some (.ref p), some x, some y, some z, none]) rfl h o l fun H1 s1 => pEls ?_))
      refine pSeqIf (pNot (next_ok (K := K) (σ := [some (.ref p), some x, some y, some z, none]) rfl rfl (h.same s1) l (h2.same s1) o2 l2 fun H2 s2 => pEls ?_))
      have s12 := s1.trans s2
      refine pSeqIf (pNot (corn_ok (K := K) (σ := [some (.ref p), some x, some y, some z, none]) hw hj rfl rfl (h.same s12) l (h3.same s12) l3 b fun H3 s3 => pEls ?_))
      have s13 := s12.trans s3
      obtain ⟨ax, rfl, rx⟩ := (h.same s13).row (K := K)
      obtain ⟨ay, rfl, ry⟩ := (h2.same s13).row (K := K)
      obtain ⟨az, rfl, rz⟩ := (h3.same s13).row (K := K)
      refine pSeqIf (pNot ⟨_, rfl, _, rfl, ax, ay, r, u, rfl, rx, ry, o, o2, l2.symm, by omega, fun b H4 s4 iff => ⟨b, rfl, ?_⟩⟩)
      have eb : b = true := iff.mpr ya
      subst eb
      refine pEls (pSeqIf (pNot ⟨_, rfl, _, rfl, _, rfl, ax, ay, az, r, u, c, rfl, Same.row s4 rx, Same.row s4 ry, Same.row s4 rz, o, o2, l2.symm, l3, by omega, fun b iff => ⟨b, rfl, ?_⟩⟩))
      have eb : b = false := Bool.eq_false_iff.mpr fun h => no (iff.mp h)
      subst eb
      exact iteT (mk_err E_Misfit.O T.npF (fun R h => h) fun d H2 _ e s => q d H2 ((s13.trans s4).trans s) e)
    | ok h o l h2 o2 l2 h3 l3 b ya yc =>
      refine pSeqIf (pNot (first_ok (K := K) (σ := [some (.ref p), some x, some y, some z, none]) rfl h o l fun H1 s1 => pEls ?_))
      refine pSeqIf (pNot (next_ok (K := K) (σ := [some (.ref p), some x, some y, some z, none]) rfl rfl (h.same s1) l (h2.same s1) o2 l2 fun H2 s2 => pEls ?_))
      have s12 := s1.trans s2
      refine pSeqIf (pNot (corn_ok (K := K) (σ := [some (.ref p), some x, some y, some z, none]) hw hj rfl rfl (h.same s12) l (h3.same s12) l3 b fun H3 s3 => pEls ?_))
      have s13 := s12.trans s3
      obtain ⟨ax, ex, rx⟩ := (h.same s13).row (K := K)
      obtain ⟨ay, ey, ry⟩ := (h2.same s13).row (K := K)
      obtain ⟨az, ez, rz⟩ := (h3.same s13).row (K := K)
      subst ex ey ez
      refine pSeqIf (pNot ⟨_, rfl, _, rfl, ax, ay, r, u, rfl, rx, ry, o, o2, l2.symm, by omega, fun b H4 s4 iff => ⟨b, rfl, ?_⟩⟩)
      have eb : b = true := iff.mpr ya
      subst eb
      refine pEls (pSeqIf (pNot ⟨_, rfl, _, rfl, _, rfl, ax, ay, az, r, u, c, rfl, Same.row s4 rx, Same.row s4 ry, Same.row s4 rz, o, o2, l2.symm, l3, by omega, fun b iff => ⟨b, rfl, ?_⟩⟩))
      have eb : b = true := iff.mpr yc
      subst eb
      refine pEls ?_
      have s14 := s13.trans s4
      -- self.right, self.up, self.corners
      have g1 := h.same s14
      have g2 := h2.same s14
      have g3 := h3.same s14
      have hp4 := s14 _ _ hp
      refine tup_of (K := K) (i := 1) rfl g1 fun t1 H5 s5 e5 => ⟨_, rfl, p, CS, dx, [], rfl, s5 _ _ hp4, T.cl, T.nR, by decide, ?_⟩
      have hp5 := s5 _ _ hp4
      have k6 : Keep p H5 (upd H5 p (.ins CS dx (putF "right" (.ref t1) []))) := fun b o nb e => by rw [upd_ne nb]; exact e
      have hp6 : (upd H5 p (.ins CS dx (putF "right" (.ref t1) []))) p = some (.ins CS dx (putF "right" (.ref t1) [])) := upd_same
      generalize upd H5 p (.ins CS dx (putF "right" (.ref t1) [])) = H6 at k6 hp6 ⊢
      have n1 : t1 ≠ p := ne_of e5 hp5 fun z => by cases z
      have e6 := k6 _ _ n1 e5
      refine tup_of (K := K) (i := 2) rfl ((g2.same s5).keep hp5 k6) fun t2 H7 s7 e7 => ⟨_, rfl, p, CS, dx, _, rfl, s7 _ _ hp6, T.cl, T.nU, few1 _ _, ?_⟩
      have hp7 := s7 _ _ hp6
      have k8 : Keep p H7 (upd H7 p (.ins CS dx (putF "up" (.ref t2) (putF "right" (.ref t1) [])))) := fun b o nb e => by rw [upd_ne nb]; exact e
      have hp8 : (upd H7 p (.ins CS dx (putF "up" (.ref t2) (putF "right" (.ref t1) [])))) p = some (.ins CS dx (putF "up" (.ref t2) (putF "right" (.ref t1) []))) := upd_same
      generalize upd H7 p (.ins CS dx (putF "up" (.ref t2) (putF "right" (.ref t1) []))) = H8 at k8 hp8 ⊢
      have n2 : t2 ≠ p := ne_of e7 hp7 fun z => by cases z
      have e8 := k8 _ _ n1 (s7 _ _ e6)
      have f8 := k8 _ _ n2 e7
      refine tup_of (K := K) (i := 3) rfl ((((g3.same s5).keep hp5 k6).same s7).keep hp7 k8) fun t3 H9 s9 e9 => ⟨_, rfl, p, CS, dx, _, rfl, s9 _ _ hp8, T.cl, T.nC, few2 _ _ _ _, ?_⟩
      have hp9 := s9 _ _ hp8
      have k10 : Keep p H9 (upd H9 p (.ins CS dx (putF "corners" (.ref t3) (putF "up" (.ref t2) (putF "right" (.ref t1) []))))) := fun b o nb e => by rw [upd_ne nb]; exact e
      have hp10 : (upd H9 p (.ins CS dx (putF "corners" (.ref t3) (putF "up" (.ref t2) (putF "right" (.ref t1) []))))) p = some (.ins CS dx (putF "corners" (.ref t3) (putF "up" (.ref t2) (putF "right" (.ref t1) [])))) := upd_same
      generalize upd H9 p (.ins CS dx (putF "corners" (.ref t3) (putF "up" (.ref t2) (putF "right" (.ref t1) [])))) = H10 at k10 hp10 ⊢
      have n3 : t3 ≠ p := ne_of e9 hp9 fun z => by cases z
      have e10 := k10 _ _ n1 (s9 _ _ e8)
      have f10 := k10 _ _ n2 (s9 _ _ f8)
      have h10 := k10 _ _ n3 e9
      have lk : (putF "corners" (.ref t3) (putF "up" (.ref t2) (putF "right" (.ref t1) []))).lookup ("right" : Str) = some (V.ref t1) := by
        rw [lookup_putF, if_neg (fun e => n_cr e.symm), lookup_putF, if_neg (fun e => n_ur e.symm), lookup_putF, if_pos rfl]
      refine ⟨_, rfl, p, CS, dx, _, _, rfl, hp10, T.cl, T.nR, lk, t1, _, rfl, .inr (SqT.of e10), _, rfl, p, CS, dx, _, rfl, hp10, T.cl, T.nM, few3 _ _ _ _ _ _, ?_⟩
      rw [iV_len]
      refine q _ (fun b ob nb e => ?_) ⟨dx, t1, t2, t3, upd_same, ?_, ?_, ?_⟩
      · rw [upd_ne nb]
        exact k10 _ _ nb (s9 _ _ (k8 _ _ nb (s7 _ _ (k6 _ _ nb (s5 _ _ (s14 _ _ e))))))
      · rw [upd_ne n1]; exact e10
      · rw [upd_ne n2]; exact f10
      · rw [upd_ne n3]; exact h10
end
end K17

set_option maxRecDepth 100000
set_option maxHeartbeats 8000000
namespace K17
open PySem PySem.Spec PyProof.Rows L2 Nv LamX
abbrev s__law_heard : Stmt := topS 29
theorem sc__law_heard : FnScope ["ask", "caught", "error", "kinds", "words", "word", "is_so"] ["ask"] (defScope s__law_heard) := ⟨rfl, rfl, rfl, by decide +kernel, rfl, by decide +kernel, by decide +kernel⟩
theorem takes_len {X : Cx} {W : WX} (t : Takes X W) : Takes X (fun cls d σ H => σ.length = X.N.length → W cls d σ H) := fun u s' ⟨a, B, sI, pins, σ, H, cls, d, e, I, nb, up, sky, na, os, ag, w⟩ =>
  t u s' ⟨a, B, sI, pins, σ, H, cls, d, e, I, nb, up, sky, na, os, ag, w I.len⟩
def wordOf (b : Bool) : Str := if b then "sheet" else "misfit"
/-- what the law hears of a call -/
def TTh (CB CF : Addr) : (XK → Hp → VK → Prop) → Hp → VK → Prop := fun tl H Q =>
  ∀ Q' : VK, (∀ v H', (∀ H2, Same H' H2 → Q .non H2) → Q' v H') → tl (fun cls d H' => ∃ (b : Bool) (part : Str) (dd : Addr), cls = .ref (errOf CB CF b) ∧ d = some dd ∧ H' dd = some (.xd [("part", .str part)]) ∧
    ∀ (p : Addr) (H2 : Hp), Same H' H2 → H' p = none → H2 p = some (.tup [.str (wordOf b), .str part]) → Q (.ref p) H2) H Q'
theorem nxI {f : L2.St → Hp → Prop} {rt : VK} {bk ct : L2.St → Hp → Prop} {σ : L2.St} {H : Hp} (h : f σ H) : (Ends.mk f rt bk ct).nx σ H := h
theorem nxt {rest : TS} {D : Ends} {σ : L2.St} {H : Hp} (h : rest D σ H) : tNext { D with nx := rest D } σ H := h
theorem gnI {i : Nat} {v : V} {σ : L2.St} {H : Hp} {Q : L2.St → Hp → Prop} (h : Q (σ.set i (some v)) H) : gName i v σ H Q := h
theorem pSeq {s t : TS} {D : Ends} {σ : L2.St} {H : Hp} (h : s { D with nx := t D } σ H) : tSeq s t D σ H := h
theorem len7 {σ : L2.St} (h : σ.length = 7) : ∃ v0 v1 v2 v3 v4 v5 v6, σ = [v0, v1, v2, v3, v4, v5, v6] := by
  match σ, h with
  | [v0, v1, v2, v3, v4, v5, v6], _ => exact ⟨_, _, _, _, _, _, _, rfl⟩
section
variable {X : Cx} {K0 : PySem.W.Frag} {mg0 : Str → Option Value} {tk : Tok} {CS CB CF CT CM fE fB fF : Addr} {dB dF : FuncData}
theorem heard_gives {g : Addr} {cdg : Value} {q : Str} (hK : X.K = K0) (hM : X.mg = mg0) (T : Txt K0 mg0 tk CS CB CF CT CM fE) (E_BadSheet : ErrC K0 mg0 "BadSheet" CB fB dB "BadSheet.__init__" s_BadSheet_init ["self", "part"]) (E_Misfit : ErrC K0 mg0 "Misfit" CF fF dF "Misfit.__init__" s_Misfit_init ["self", "part"]) :
    GivesTo X ["ask", "caught", "error", "kinds", "words", "word", "is_so"] "_law_heard" (defScope s__law_heard) g cdg (defBody s__law_heard) "ask" q (TTh CB CF) := by
  obtain ⟨prog, w, K, mg, base, A, N, s0, H0, env, outer, stack, ex, fn, calm, pn0, xe0⟩ := X
  dsimp only at hK hM
  subst hK hM
  intro f c' s H Q tl act hc h
  let TBH : WX → TS := fun W D σ H => ∃ Ech : XK, (∀ cls d σ' H', Ech cls d H' → σ'.length = 7 → W cls d σ' H') ∧ σ[0]? = some (some (.ref f)) ∧ H c' = some (CodeO c' q) ∧ tl Ech H (fun _ H' => D.nx σ H')
  have ACT : ∀ (W : WX) (pn : List (Addr × Obj)) (xe : Value → Shared → Prop), Takes (((cxOf C8.CX0 prog w K mg base ["ask", "caught", "error", "kinds", "words", "word", "is_so"] "_law_heard" (defScope s__law_heard) g cdg A stack s H C8.E0).nox).tr pn xe) W →
      PassesOwn (model prog w) ((cxOf C8.CX0 prog w K mg base ["ask", "caught", "error", "kinds", "words", "word", "is_so"] "_law_heard" (defScope s__law_heard) g cdg A stack s H C8.E0).nox).A ((cxOf C8.CX0 prog w K mg base ["ask", "caught", "error", "kinds", "words", "word", "is_so"] "_law_heard" (defScope s__law_heard) g cdg A stack s H C8.E0).nox).env xe →
      ∀ p1 p2 p3 : Pos, PSs (((cxOf C8.CX0 prog w K mg base ["ask", "caught", "error", "kinds", "words", "word", "is_so"] "_law_heard" (defScope s__law_heard) g cdg A stack s H C8.E0).nox).tr pn xe) [.Expr (.Call (.Name "ask" p1) [] [] p2) p3] (TBH W) := fun W pn xe tk _ p1 p2 p3 => by
    refine ⟨fun pins s' σ H' D I h' => ?_⟩
    obtain ⟨Ech, hW, h1, h2, h3⟩ := h'
    have hp := act (fun cls d σ H => σ.length = 7 → W cls d σ H) pn xe Ech p1 p2 (takes_len tk) hW
    exact (pss_one (ps_expr (pos := p3) hp)).run pins s' σ H' D I ⟨h1, h2, h3⟩
  refine ⟨_, (pss_cons (Nv.ps_setN (i := 1) sc__law_heard.nd rfl (by first | exact Or.inl rfl | exact Or.inr rfl) pe_non)
(pss_cons (Nv.ps_try_held (i := 2) (c := .ref _) (tb := TBH) rfl rfl rfl sc__law_heard.nd rfl rfl ⟨by rfl, by decide, .inl T.g_MirrorError⟩ L2.takes0 (fun W pn xe tk hp => ACT W pn xe tk hp _ _ _) (fun a oe cls d pn _ _ => (pss_one (Nv.ps_setN (i := 1) sc__law_heard.nd rfl (by first | exact Or.inl rfl | exact Or.inr rfl) (pv 2)))))
(pss_cons (ps_if (pt_val (pe_callB Nv.call_isX (by rfl) T.n_isinstance (by decide +kernel) (pa_cons (pv 1) (pa_cons (pe_glob (v := .ref _) (by rfl) T.g_TooMany rfl) pa_nil))))
(pss_one (ps_ret (Nv.pe_tupN (pa_cons pe_str (pa_cons (Nv.pe_heldF (pv 1) (by rfl)) (pa_cons (Nv.pe_heldF (pv 1) (by rfl)) pa_nil))))))
pss_nil)
(pss_cons (Nv.ps_setN (i := 3) sc__law_heard.nd rfl (by first | exact Or.inl rfl | exact Or.inr rfl) (Nv.pe_lstN (pa_cons (Nv.pe_tupN (pa_cons pe_str (pa_cons (pe_callB Nv.call_isX (by rfl) T.n_isinstance (by decide +kernel) (pa_cons (pv 1) (pa_cons (pe_glob (v := .ref _) (by rfl) T.g_BadSheet rfl) pa_nil))) pa_nil))) (pa_cons (Nv.pe_tupN (pa_cons pe_str (pa_cons (pe_callB Nv.call_isX (by rfl) T.n_isinstance (by decide +kernel) (pa_cons (pv 1) (pa_cons (pe_glob (v := .ref _) (by rfl) T.g_Misfit rfl) pa_nil))) pa_nil))) pa_nil))))
(pss_cons (ps_setLc (i := 4) (own := [(("word" : Str), 5), (("is_so" : Str), 6)]) (g := gTup K 2 (gCons (gName 5) (gCons (gName 6) gNil))) (by rfl) sc__law_heard.nd rfl rfl (sw_true rfl rfl rfl (by decide +kernel)) (pi_list (pv 3)) (blkOk_by (N := ["ask", "caught", "error", "kinds", "words", "word", "is_so"]) (sc := defScope s__law_heard) (by decide +kernel)) (fun _ _ _ _ _ => pg_tup (by rfl) (pgs_cons (pg_name (i := 5) sc__law_heard.nd rfl (by first | exact Or.inl rfl | exact Or.inr rfl)) (pgs_cons (pg_name (i := 6) sc__law_heard.nd rfl (by first | exact Or.inl rfl | exact Or.inr rfl)) pgs_nil))) (fun _ _ _ _ _ => (pts_one (pt_val (pv 6)))) (fun _ _ _ _ _ => (pv 5)))
(pss_cons (ps_if (pt_cmpR op_eq (pe_callB (Nv.cr_lenSeq (K := K) rfl) (by rfl) T.n_len (by decide +kernel) (pa_cons (pv 4) pa_nil)) pe_int (nomark _))
(pss_one (ps_ret (Nv.pe_tupN (pa_cons (pe_ix (Nv.ix_listK (K := K) rfl) (pv 4) pe_int (fun _ _ => rfl)) (pa_cons (Nv.pe_heldF (pv 1) (by rfl)) pa_nil)))))
pss_nil)
(pss_one (ps_ret (pe_ifExp (pt_cmpR op_isN (pv 1) pe_non (nomark _)) pe_non (Nv.pe_tupN (pa_cons pe_str (pa_cons pe_non pa_nil)))))))))))), ?_⟩
  show tSeq (tAsg _ _) _ _ [some (.ref f), none, none, none, none, none, none] H
  refine fun σ1 c1 => ?_
  obtain rfl : σ1 = [some (.ref f), some .non, none, none, none, none, none] := c1
  -- what follows the try
  have isN : ∀ (C : Addr) (H2 : Hp) (R : VK), PySem.W.kitOne K (.type "NoneType") (.ref C) = some false → R (.bl false) H2 → rIsX K [.non, .ref C] H2 R := fun C H2 R k q => .inl ⟨.non, .ref C, .type "NoneType", .ref C, false, rfl, .own C, .base .non, k, q⟩
  refine ⟨_, ?_, rfl, hc, h _ fun v H1 fin => ?_⟩
  · rintro cls d σ' H1 ⟨b, part, dd, rfl, rfl, hd, fin⟩ l7
    obtain ⟨v0, v1, v2, v3, v4, v5, v6, rfl⟩ := len7 l7
    refine ⟨true, by cases b; exact T.eF; exact T.eB, fun _ a na => ?_, fun z => by cases z⟩
    refine ⟨_, rfl, fun σ2 c2 => fun na' => ?_⟩
    obtain rfl : σ2 = [v0, some (.ref a), some (.ref a), v3, v4, v5, v6] := c2
    refine nxI ?_
    show tSeq (tIfS _ _ _) _ _ [v0, some (.ref a), none, v3, v4, v5, v6] _
    generalize hH2 : upd H1 a (exC (.ref (errOf CB CF b)) a (some dd)) = H2
    have s2 : Same H1 H2 := by rw [← hH2]; exact Same.neu na
    have ea : H2 a = some (exC (.ref (errOf CB CF b)) a (some dd)) := by rw [← hH2]; exact upd_same
    have ed := s2 _ _ hd
    clear hH2
    have EC : ExcC K (errOf CB CF b) := by cases b; exact E_Misfit.E; exact E_BadSheet.E
    have EX : XfC K (errOf CB CF b) := by cases b; exact E_Misfit.X; exact E_BadSheet.X
    have ENO : PySem.W.findIn K (.ref (errOf CB CF b)) "part" = some none := by cases b; exact T.npF; exact T.npB
    have isE : ∀ (C : Addr) (H3 : Hp) (r : Bool) (R : VK), Same H2 H3 → PySem.W.kitOne K (.ref (errOf CB CF b)) (.ref C) = some r → R (.bl r) H3 → rIsX K [.ref a, .ref C] H3 R := fun C H3 r R s k q =>
      .inr ⟨a, _, dd, _, .ref C, .ref C, r, rfl, s _ _ ea, s _ _ ed, .own C, EC, k, q⟩
    refine pSeqIf ?_
    refine ⟨_, rfl, isE CT H2 false _ (Same.refl H2) (by cases b; exact T.kFT; exact T.kBT) ⟨_, rfl, iteF (nxt ?_)⟩⟩
    show tSeq (tAsg _ _) _ _ [v0, some (.ref a), none, v3, v4, v5, v6] _
    refine ⟨_, rfl, isE CB H2 b _ (Same.refl H2) (by cases b; exact T.kFB; exact T.kBB) ⟨by show 2 ≤ sizeLine; decide, fun t1 H3 n3 e3 s3 => ⟨_, rfl, isE CF H3 (!b) _ s3 (by cases b; exact T.kFF; exact T.kBF) ⟨by show 2 ≤ sizeLine; decide, fun t2 H4 n4 e4 s4 => ⟨by show 2 ≤ sizeLine; decide, fun l H5 n5 e5 s5 => fun σ5 c5 => ?_⟩⟩⟩⟩⟩
    obtain rfl : σ5 = [v0, some (.ref a), none, some (.ref l), v4, v5, v6] := c5
    have pr : Pairs K H5 [V.ref t1, V.ref t2] [("sheet", b), ("misfit", !b)] := ⟨⟨t1, rfl, SqT.of (s5 _ _ (s4 _ _ e3))⟩, ⟨t2, rfl, SqT.of (s5 _ _ e4)⟩, True.intro⟩
    refine nxI (pSeq (pAsg (lc_words (K := K) (σ := [v0, some (.ref a), none, some (.ref l), v4, v5, v6]) (i := 5) (j := 6) (ow := [5, 6]) e5 pr (by show 2 ≤ 1000; decide) (by decide) (fun _ _ => rfl) (fun _ _ => rfl) (fun _ _ => rfl) (tl := tVar 3) (fun R q => ⟨_, rfl, q⟩) fun ws H6 n6 e6 s6 => ?_)))
    have s26 : Same H2 H6 := (s3.trans s4).trans (s5.trans s6)
    have ew : (([(("sheet" : Str), b), ("misfit", !b)] : List (Str × Bool)).filter (·.2)).map (fun p => V.str p.1) = [.str (wordOf b)] := by cases b <;> rfl
    rw [ew] at e6
    refine gnI (nxI ?_)
    show tSeq (tIfS _ _ _) _ _ [v0, some (.ref a), none, some (.ref l), some (.ref ws), v5, v6] _
    refine pSeqIf ?_
    refine ⟨_, rfl, ws, _, rfl, .inl (SqL.of e6), rfl, _, rfl, iteT ?_⟩
    refine ⟨_, rfl, ws, _, 0, .str (wordOf b), rfl, rfl, SqL.of e6, rfl, _, rfl, a, _, dd, _, .str part, rfl, s26 _ _ ea, s26 _ _ ed, EX, ENO, rfl, by show 2 ≤ sizeLine; decide, fun p H7 n7 e7 s7 => ?_⟩
    refine fin p H7 ((s2.trans s26).trans s7) ?_ e7
    cases z : H1 p with
    | none => rfl
    | some o =>
      have := s26 _ _ (s2 _ _ z)
      rw [n7] at this
      cases this
  · refine nxI ?_
    show tSeq (tIfS _ _ _) _ _ [some (.ref f), some .non, none, none, none, none, none] H1
    refine pSeqIf ?_
    refine ⟨_, rfl, isN CT H1 _ T.kNT ⟨_, rfl, iteF (nxt ?_)⟩⟩
    show tSeq (tAsg _ _) _ _ [some (.ref f), some .non, none, none, none, none, none] H1
    refine ⟨_, rfl, isN CB H1 _ T.kNB ⟨by show 2 ≤ sizeLine; decide, fun t1 H3 n3 e3 s3 => ⟨_, rfl, isN CF H3 _ T.kNF ⟨by show 2 ≤ sizeLine; decide, fun t2 H4 n4 e4 s4 => ⟨by show 2 ≤ sizeLine; decide, fun l H5 n5 e5 s5 => fun σ5 c5 => ?_⟩⟩⟩⟩⟩
    obtain rfl : σ5 = [some (.ref f), some .non, none, some (.ref l), none, none, none] := c5
    have pr : Pairs K H5 [V.ref t1, V.ref t2] [("sheet", false), ("misfit", false)] := ⟨⟨t1, rfl, SqT.of (s5 _ _ (s4 _ _ e3))⟩, ⟨t2, rfl, SqT.of (s5 _ _ e4)⟩, True.intro⟩
    refine nxI (pSeq (pAsg (lc_words (K := K) (σ := [some (.ref f), some .non, none, some (.ref l), none, none, none]) (i := 5) (j := 6) (ow := [5, 6]) e5 pr (by show 2 ≤ 1000; decide) (by decide) (fun _ _ => rfl) (fun _ _ => rfl) (fun _ _ => rfl) (tl := tVar 3) (fun R q => ⟨_, rfl, q⟩) fun ws H6 n6 e6 s6 => ?_)))
    refine gnI (nxI ?_)
    show tSeq (tIfS _ _ _) _ _ [some (.ref f), some .non, none, some (.ref l), some (.ref ws), none, none] _
    refine pSeqIf ?_
    refine ⟨_, rfl, ws, _, rfl, .inl (SqL.of e6), rfl, _, rfl, iteF (nxt ?_)⟩
    refine ⟨_, rfl, rfl, _, rfl, iteT (fin H6 ((s3.trans s4).trans (s5.trans s6)))⟩
end
end K17

set_option maxRecDepth 100000
set_option maxHeartbeats 8000000
namespace K17
open PySem PySem.Spec PyProof.Rows L2 Nv
abbrev s__law_pantry : Stmt := topS 26
theorem sc__law_pantry : FnScope ["script", "cell"] ["script"] (defScope s__law_pantry) := ⟨rfl, rfl, rfl, by decide +kernel, rfl, by decide +kernel, by decide +kernel⟩
abbrev s__law_shelf : Stmt := topS 27
theorem sc__law_shelf : FnScope ["pantry", "many", "rest", "turn", "cell", "mixed"] ["pantry", "many"] (defScope s__law_shelf) := ⟨rfl, rfl, rfl, by decide +kernel, rfl, by decide +kernel, by decide +kernel⟩
abbrev s__law_one_of : Stmt := topS 28
theorem sc__law_one_of : FnScope ["pantry", "some"] ["pantry", "some"] (defScope s__law_one_of) := ⟨rfl, rfl, rfl, by decide +kernel, rfl, by decide +kernel, by decide +kernel⟩
section
variable {P : Program} {w : World} {K : PySem.W.Frag} {mg : Str → Option Value} {base : Heap} {tk : Tok} {CS CB CF CT CM fE : Addr}
set_option maxHeartbeats 8000000 in
theorem ok_draw {f : Addr} {fd : FuncData} (F : Fun K "_law_shelf" "_law_shelf" s__law_shelf f fd) (T : Txt K mg tk CS CB CF CT CM fE) : FnOk P w K mg base CX0 1 f fd ["pantry", "many"] spFlick := by
  refine F.ok sc__law_shelf (fun vs H Q E h => ?_) (fun cdv A outer s H vs Q E hr h => ?_)
  · obtain ⟨L, n, t, l, cs, rfl, _⟩ := h
    rfl
  · obtain ⟨L, n, t, l, cs, rfl, hn, hn2, hL, ht, q⟩ := h
    obtain ⟨turn, rest, h1, h2, hne, hcs, ht0, ht1⟩ := hL.ex
    have last : ∀ (H' : Hp) (r : Int), Keep L H H' → Lan H' L l cs (t + 1) → Q (.int (r % n)) H' := fun H' r k z => q H' (r % n) k z (Int.emod_nonneg _ (by omega)) (Int.emod_lt_of_pos _ hn)
    refine ⟨_, (pss_cons (ps_if (pt_cmpR op_gt (pe_ix (Nv.ix_listK (K := K) rfl) (pv 0) pe_int (fun _ _ => rfl)) pe_int (nomark _))
(pss_cons (ps_set (i := 2) sc__law_shelf.nd rfl (by first | exact Or.inl rfl | exact Or.inr rfl) (pe_callTy call_int1 (by rfl) T.n_int (by decide +kernel) (pa_cons (pe_ix (Nv.ix_listK (K := K) rfl) (pv 0) pe_int (fun _ _ => rfl)) pa_nil)))
(pss_cons (ps_asg (pe_op op_fdivW (pv 2) (pv 1)) (pg_sub (pv 0) pe_int set_list))
(pss_one (ps_ret (pe_op op_mod (pe_callTy call_int1 (by rfl) T.n_int (by decide +kernel) (pa_cons (pv 2) pa_nil)) (pv 1))))))
pss_nil)
(pss_cons (ps_set (i := 3) sc__law_shelf.nd rfl (by first | exact Or.inl rfl | exact Or.inr rfl) (pe_ix (Nv.ix_listK (K := K) rfl) (pv 0) pe_int (fun _ _ => rfl)))
(pss_cons (ps_asg (pe_op op_add (pv 3) pe_int) (pg_sub (pv 0) pe_int set_list))
(pss_cons (ps_set (i := 4) sc__law_shelf.nd rfl (by first | exact Or.inl rfl | exact Or.inr rfl) (pe_op op_add (pe_op op_mul pe_int (pv 3)) pe_int))
(pss_cons (ps_if (pt_cmpR (op_neD hr.units) (pe_ix (Nv.ix_listK (K := K) rfl) (pv 0) pe_int (fun _ _ => rfl)) (pe_lst pa_nil) (nomark _))
(pss_one (ps_set (i := 4) sc__law_shelf.nd rfl (by first | exact Or.inl rfl | exact Or.inr rfl) (pe_ix (Nv.ix_listK (K := K) rfl) (pe_ix (Nv.ix_listK (K := K) rfl) (pv 0) pe_int (fun _ _ => rfl)) (pe_op op_mod (pe_callTy call_int1 (by rfl) T.n_int (by decide +kernel) (pa_cons (pv 3) pa_nil)) (pe_callB (Nv.cr_lenSeq (K := K) rfl) (by rfl) T.n_len (by decide +kernel) (pa_cons (pe_ix (Nv.ix_listK (K := K) rfl) (pv 0) pe_int (fun _ _ => rfl)) pa_nil))) (fun _ _ => rfl))))
pss_nil)
(pss_cons (ps_if (PW.pt (pw_and (pt_cmpR op_lt (pv 3) (pe_callB (Nv.cr_lenSeq (K := K) rfl) (by rfl) T.n_len (by decide +kernel) (pa_cons (pe_ix (Nv.ix_listK (K := K) rfl) (pv 0) pe_int (fun _ _ => rfl)) pa_nil)) (nomark _)) (pw_and1 (pt_cmpR op_ge (pe_callB call_abs (by rfl) T.n_abs (by decide +kernel) (pa_cons (pv 4) pa_nil)) (pe_op op_pow pe_int pe_int) (nomark _)))))
(pss_cons (ps_set (i := 2) sc__law_shelf.nd rfl (by first | exact Or.inl rfl | exact Or.inr rfl) (pe_op op_add (pe_op op_mul pe_int (pe_op op_sub (pe_callB call_abs (by rfl) T.n_abs (by decide +kernel) (pa_cons (pv 4) pa_nil)) (pe_op op_pow pe_int pe_int))) (pe_callTy call_int1 (by rfl) T.n_int (by decide +kernel) (pa_cons (pe_cmpR op_lt (pv 4) pe_int (nomark _)) pa_nil))))
(pss_cons (ps_asg (pe_op op_fdivW (pv 2) (pv 1)) (pg_sub (pv 0) pe_int set_list))
(pss_one (ps_ret (pe_op op_mod (pe_callTy call_int1 (by rfl) T.n_int (by decide +kernel) (pa_cons (pv 2) pa_nil)) (pv 1))))))
pss_nil)
(pss_cons (ps_set (i := 5) sc__law_shelf.nd rfl (by first | exact Or.inl rfl | exact Or.inr rfl) (pe_op op_mod (pe_callTy call_int1 (by rfl) T.n_int (by decide +kernel) (pa_cons (pe_op op_pow (pe_op op_add (pe_op op_add (pe_op op_mod (pe_callTy call_int1 (by rfl) T.n_int (by decide +kernel) (pa_cons (pv 4) pa_nil)) pe_int) (pe_op op_mul pe_int (pv 3))) pe_int) pe_int) pa_nil)) pe_int))
(pss_cons (ps_set (i := 5) sc__law_shelf.nd rfl (by first | exact Or.inl rfl | exact Or.inr rfl) (pe_op op_mod (pe_callTy call_int1 (by rfl) T.n_int (by decide +kernel) (pa_cons (pe_op op_pow (pe_op op_add (pe_op op_add (pe_op op_mul (pv 5) (pe_op op_add (pe_op op_mul pe_int (pv 3)) pe_int)) (pe_op op_mul (pe_op op_mul pe_int (pv 3)) (pv 3))) pe_int) pe_int) pa_nil)) pe_int))
(pss_one (ps_ret (pe_op op_mod (pe_callTy call_int1 (by rfl) T.n_int (by decide +kernel) (pa_cons (pe_op op_fdivW (pv 5) pe_int) pa_nil)) (pv 1)))))))))))), ?_⟩
    refine ⟨_, rfl, L, _, 2, .int rest, rfl, rfl, SqL.of h1, rfl, rest, 0, rfl, rfl, _, rfl, ifb (fun z => ?_) (fun z => ?_)⟩
    · refine ⟨_, rfl, L, _, 2, .int rest, rfl, rfl, SqL.of h1, rfl, .inl ⟨rest, rfl, ?_⟩⟩
      refine ⟨_, rfl, _, rfl, rest, n, rfl, rfl, ⟨hn, hn2⟩, _, rfl, L, _, 2, 2, rfl, rfl, h1, rfl, ?_⟩
      refine ⟨_, rfl, .inl ⟨rest, rfl, _, rfl, _, _, rfl, rfl, hn, last _ _ (fun b o nb e => ?_) ⟨turn, rest / n, upd_same, ?_, hne, hcs, ht0, by omega⟩⟩⟩
      · rw [upd_ne nb]; exact e
      · rw [upd_ne hne]; exact h2
    · refine ⟨_, rfl, L, _, 1, .int turn, rfl, rfl, SqL.of h1, rfl, ?_⟩
      refine ⟨_, rfl, turn, 1, rfl, rfl, _, rfl, L, _, 1, 1, rfl, rfl, h1, rfl, ?_⟩
      have k1 : Keep L H (upd H L (.lst ([V.ref l, V.int turn, V.int rest].set 1 (.int (turn + 1))))) := fun b o nb e => by
        rw [upd_ne nb]; exact e
      generalize hH1 : upd H L (.lst ([V.ref l, V.int turn, V.int rest].set 1 (.int (turn + 1)))) = H1 at k1 ⊢
      have g1 : H1 L = some (.lst [.ref l, .int (turn + 1), .int rest]) := by rw [← hH1]; exact upd_same
      have g2 : H1 l = some (.lst (cs.map V.int)) := k1 _ _ hne h2
      refine ⟨_, rfl, _, _, rfl, rfl, .inl ⟨by decide, by decide⟩, _, _, rfl, rfl, ?_⟩
      refine ⟨_, rfl, L, _, 0, .ref l, rfl, rfl, SqL.of g1, rfl, by show 0 ≤ sizeLine; decide, fun p np => ?_⟩
      have k2 : Keep L H1 (upd H1 p (.lst [])) := Keep.new np
      have f1 := (Same.new (o := .lst []) np) _ _ g1
      have f2 := (Same.new (o := .lst []) np) _ _ g2
      have f3 : (upd H1 p (.lst [])) p = some (.lst []) := upd_same
      generalize upd H1 p (.lst []) = H2 at k2 f1 f2 f3 ⊢
      have kk : Keep L H H2 := k1.trans k2
      clear k1 k2 g1 g2 hH1
      have dim : ∀ r' : Int, Lan (upd H2 L (.lst ([V.ref l, V.int (turn + 1), V.int rest].set 2 (.int r')))) L l cs (t + 1) := fun r' => ⟨turn + 1, r', upd_same, by rw [upd_ne hne]; exact f2, hne, hcs, by omega, by omega⟩
      have kd : ∀ r' : Int, Keep L H (upd H2 L (.lst ([V.ref l, V.int (turn + 1), V.int rest].set 2 (.int r')))) := fun r' b o nb e => by
        rw [upd_ne nb]; exact kk b o nb e
      have lan2 : Lan H2 L l cs (t + 1) := ⟨turn + 1, rest, f1, f2, hne, hcs, by omega, by omega⟩
      have ht2 : turn ≤ 1000000 := by omega
      refine ⟨.list (cs.map PyData.int), .list [], .lst (SqL.of f2) (dpAll_ints cs), .lst (SqL.of f3) .nil, shaped_ints cs, by decide +kernel, _, rfl, ifb (fun z => ?_) (fun z => ?_)⟩
      · have hc : cs ≠ [] := fun e => by
          rw [eqv_nil, e] at z
          cases z
        obtain ⟨c, at_⟩ := at_mod hc turn
        refine ⟨_, rfl, L, _, 0, .ref l, rfl, rfl, SqL.of f1, rfl, _, rfl, .inl ⟨turn, rfl, _, rfl, L, _, 0, .ref l, rfl, rfl, SqL.of f1, rfl, l, _, rfl, .inl (SqL.of f2), turn, _, rfl, rfl, ?_, l, _, _, .int c, rfl, rfl, SqL.of f2, at_, ?_⟩⟩
        · show (0 : Int) < (((cs.map V.int).length : Nat) : Int)
          rw [List.length_map]
          have := List.length_pos_iff.mpr hc
          omega
        refine ⟨_, rfl, _, rfl, L, _, 0, .ref l, rfl, rfl, SqL.of f1, rfl, l, _, rfl, .inl (SqL.of f2), turn, _, rfl, rfl, _, rfl, ifb (fun z1 => ?_) (fun z1 => ?_)⟩
        · refine ⟨_, rfl, _, rfl, 10, 18, rfl, rfl, ⟨by decide, by decide, by decide⟩, _, _, rfl, rfl, _, rfl, ifb (fun z2 => ?_) (fun z2 => ?_)⟩
          · refine ⟨_, rfl, _, rfl, 10, 18, rfl, rfl, ⟨by decide, by decide, by decide⟩, _, _, rfl, rfl, _, _, rfl, rfl, .inl ⟨by decide, by decide⟩, _, rfl, _, _, rfl, rfl, .inr ⟨_, rfl, _, _, rfl, rfl, ?_⟩⟩
            refine ⟨_, rfl, _, rfl, _, n, rfl, rfl, ⟨hn, hn2⟩, _, rfl, L, _, 2, 2, rfl, rfl, f1, rfl, ?_⟩
            exact ⟨_, rfl, .inl ⟨_, rfl, _, rfl, _, _, rfl, rfl, hn, last _ _ (kd _) (dim _)⟩⟩
          · refine ⟨_, rfl, .inl ⟨_, rfl, _, _, rfl, rfl, posm (by decide), _, rfl, _, _, rfl, rfl, .inl ⟨by decide, by decide⟩, _, _, rfl, rfl, _, _, rfl, rfl, _, _, rfl, rfl, pow5 (by decide) (by decide) (by decide) (by decide) (by decide) (by decide) ht0 ht2, .inl ⟨_, rfl, _, _, rfl, rfl, posm (by decide), ?_⟩⟩⟩
            refine ⟨_, rfl, _, rfl, _, _, rfl, rfl, .inl ⟨by decide, by decide⟩, _, _, rfl, rfl, _, _, rfl, rfl, mul5 (by decide) (by decide), _, rfl, _, _, rfl, rfl, .inl ⟨by decide, by decide⟩, _, rfl, _, _, rfl, rfl, mul6 (by decide) (by decide) ht0 ht2, _, _, rfl, rfl, _, _, rfl, rfl, _, _, rfl, rfl, pow3 (by decide) (by decide) (by decide) (by decide) (by decide) (by decide) (by decide) (by decide) (by decide) (by decide) ht0 ht2, .inl ⟨_, rfl, _, _, rfl, rfl, posm (by decide), ?_⟩⟩
            exact ⟨_, rfl, _, _, rfl, rfl, ⟨by decide, by decide⟩, .inl ⟨_, rfl, _, rfl, _, _, rfl, rfl, hn, last _ _ kk lan2⟩⟩
        · dsimp only
          rw [if_neg Bool.false_ne_true]
          refine ⟨_, rfl, .inl ⟨_, rfl, _, _, rfl, rfl, posm (by decide), _, rfl, _, _, rfl, rfl, .inl ⟨by decide, by decide⟩, _, _, rfl, rfl, _, _, rfl, rfl, _, _, rfl, rfl, pow5 (by decide) (by decide) (by decide) (by decide) (by decide) (by decide) ht0 ht2, .inl ⟨_, rfl, _, _, rfl, rfl, posm (by decide), ?_⟩⟩⟩
          refine ⟨_, rfl, _, rfl, _, _, rfl, rfl, .inl ⟨by decide, by decide⟩, _, _, rfl, rfl, _, _, rfl, rfl, mul5 (by decide) (by decide), _, rfl, _, _, rfl, rfl, .inl ⟨by decide, by decide⟩, _, rfl, _, _, rfl, rfl, mul6 (by decide) (by decide) ht0 ht2, _, _, rfl, rfl, _, _, rfl, rfl, _, _, rfl, rfl, pow3 (by decide) (by decide) (by decide) (by decide) (by decide) (by decide) (by decide) (by decide) (by decide) (by decide) ht0 ht2, .inl ⟨_, rfl, _, _, rfl, rfl, posm (by decide), ?_⟩⟩
          exact ⟨_, rfl, _, _, rfl, rfl, ⟨by decide, by decide⟩, .inl ⟨_, rfl, _, rfl, _, _, rfl, rfl, hn, last _ _ kk lan2⟩⟩
      · refine ⟨_, rfl, _, rfl, L, _, 0, .ref l, rfl, rfl, SqL.of f1, rfl, l, _, rfl, .inl (SqL.of f2), turn, _, rfl, rfl, _, rfl, ifb (fun z1 => ?_) (fun z1 => ?_)⟩
        · refine ⟨_, rfl, _, rfl, 10, 18, rfl, rfl, ⟨by decide, by decide, by decide⟩, _, _, rfl, rfl, _, rfl, ifb (fun z2 => ?_) (fun z2 => ?_)⟩
          · refine ⟨_, rfl, _, rfl, 10, 18, rfl, rfl, ⟨by decide, by decide, by decide⟩, _, _, rfl, rfl, _, _, rfl, rfl, .inl ⟨by decide, by decide⟩, _, rfl, _, _, rfl, rfl, .inr ⟨_, rfl, _, _, rfl, rfl, ?_⟩⟩
            refine ⟨_, rfl, _, rfl, _, n, rfl, rfl, ⟨hn, hn2⟩, _, rfl, L, _, 2, 2, rfl, rfl, f1, rfl, ?_⟩
            exact ⟨_, rfl, .inl ⟨_, rfl, _, rfl, _, _, rfl, rfl, hn, last _ _ (kd _) (dim _)⟩⟩
          · refine ⟨_, rfl, .inl ⟨_, rfl, _, _, rfl, rfl, posm (by decide), _, rfl, _, _, rfl, rfl, .inl ⟨by decide, by decide⟩, _, _, rfl, rfl, _, _, rfl, rfl, _, _, rfl, rfl, pow5 (by decide) (by decide) (by decide) (by decide) (by decide) (by decide) ht0 ht2, .inl ⟨_, rfl, _, _, rfl, rfl, posm (by decide), ?_⟩⟩⟩
            refine ⟨_, rfl, _, rfl, _, _, rfl, rfl, .inl ⟨by decide, by decide⟩, _, _, rfl, rfl, _, _, rfl, rfl, mul5 (by decide) (by decide), _, rfl, _, _, rfl, rfl, .inl ⟨by decide, by decide⟩, _, rfl, _, _, rfl, rfl, mul6 (by decide) (by decide) ht0 ht2, _, _, rfl, rfl, _, _, rfl, rfl, _, _, rfl, rfl, pow3 (by decide) (by decide) (by decide) (by decide) (by decide) (by decide) (by decide) (by decide) (by decide) (by decide) ht0 ht2, .inl ⟨_, rfl, _, _, rfl, rfl, posm (by decide), ?_⟩⟩
            exact ⟨_, rfl, _, _, rfl, rfl, ⟨by decide, by decide⟩, .inl ⟨_, rfl, _, rfl, _, _, rfl, rfl, hn, last _ _ kk lan2⟩⟩
        · dsimp only
          rw [if_neg Bool.false_ne_true]
          refine ⟨_, rfl, .inl ⟨_, rfl, _, _, rfl, rfl, posm (by decide), _, rfl, _, _, rfl, rfl, .inl ⟨by decide, by decide⟩, _, _, rfl, rfl, _, _, rfl, rfl, _, _, rfl, rfl, pow5 (by decide) (by decide) (by decide) (by decide) (by decide) (by decide) ht0 ht2, .inl ⟨_, rfl, _, _, rfl, rfl, posm (by decide), ?_⟩⟩⟩
          refine ⟨_, rfl, _, rfl, _, _, rfl, rfl, .inl ⟨by decide, by decide⟩, _, _, rfl, rfl, _, _, rfl, rfl, mul5 (by decide) (by decide), _, rfl, _, _, rfl, rfl, .inl ⟨by decide, by decide⟩, _, rfl, _, _, rfl, rfl, mul6 (by decide) (by decide) ht0 ht2, _, _, rfl, rfl, _, _, rfl, rfl, _, _, rfl, rfl, pow3 (by decide) (by decide) (by decide) (by decide) (by decide) (by decide) (by decide) (by decide) (by decide) (by decide) ht0 ht2, .inl ⟨_, rfl, _, _, rfl, rfl, posm (by decide), ?_⟩⟩
          exact ⟨_, rfl, _, _, rfl, rfl, ⟨by decide, by decide⟩, .inl ⟨_, rfl, _, rfl, _, _, rfl, rfl, hn, last _ _ kk lan2⟩⟩

theorem ok_script {f : Addr} {fd : FuncData} (F : Fun K "_law_pantry" "_law_pantry" s__law_pantry f fd) (T : Txt K mg tk CS CB CF CT CM fE) : FnOk P w K mg base CX0 1 f fd ["script"] (spLantern K) := by
  refine F.ok sc__law_pantry (fun vs H Q E h => ?_) (fun cdv A outer s H vs Q E hr h => ?_)
  · obtain ⟨a, ns, rfl, _⟩ := h
    rfl
  · obtain ⟨a, ns, rfl, hS, hlen, q⟩ := h
    refine ⟨_, (pss_one (ps_ret (pe_lst (pa_cons (pe_lc (own := [(("cell" : Str), 1)]) (g := gName 1) (by rfl) sc__law_pantry.nd (pi_list (pe_slice sl_list (pv 0) po_none (po_some pe_int))) (blkOk_by (N := ["script", "cell"]) (sc := defScope s__law_pantry) (by decide +kernel)) (fun _ _ _ _ _ => pg_name (i := 1) sc__law_pantry.nd rfl (by first | exact Or.inl rfl | exact Or.inr rfl)) (fun _ _ _ _ _ => pts_nil) (fun _ _ _ _ _ => (pe_callTy call_int1 (by rfl) T.n_int (by decide +kernel) (pa_cons (pv 1) pa_nil)))) (pa_cons pe_int (pa_cons pe_int pa_nil)))))), ?_⟩
    refine ⟨_, rfl, 60, rfl, a, _, rfl, hS, fun p np => ⟨p, rfl, ⟨_, SqL.of upd_same⟩, fun D nD => ?_⟩⟩
    have e60 : cutV (ns.map V.int) none (some 60) = (ns.take 60).map V.int := by rw [cut60, List.map_take]
    have l60 : (ns.take 60).length ≤ 60 := by rw [List.length_take]; omega
    rw [e60] at nD ⊢
    generalize ns.take 60 = cs at l60 nD ⊢
    have npD : p ≠ D := ne_of_none upd_same nD
    refine lc_list (K := K) (a := p) (xs := cs.map V.int) (fun i H' => Same H H' ∧ H' p = some (.lst (cs.map V.int)) ∧ H' D = some (.lst ((cs.take i).map V.int)) ∧ H D = none) ⟨?_, ?_, ?_, ?_⟩ (fun i H' _ h => SqL.of h.2.1) ?_ ?_
    · intro b o e
      rw [upd_ne (ne_of_none ((Same.new (o := .lst (cs.map V.int)) np) _ _ e) nD)]
      exact (Same.new np) _ _ e
    · rw [upd_ne npD]; exact upd_same
    · exact upd_same
    · rw [upd_ne npD.symm] at nD; exact nD
    · rintro i x H' hx ⟨s1, h1, h2, h3⟩
      rw [List.getElem?_map] at hx
      cases e : cs[i]? with
      | none => rw [e] at hx; cases hx
      | some c =>
        rw [e] at hx
        cases hx
        refine ⟨rfl, ?_⟩
        dsimp only [tYes]
        rw [if_pos rfl]
        refine ⟨_, rfl, .inl ⟨c, rfl, _, h2, ?_, ?_, ?_, ?_, h3⟩⟩
        · rw [List.length_map, List.length_take]
          have : sizeLine = 16777216 := by decide
          omega
        · intro b o e2
          rw [upd_ne (ne_of_none e2 h3)]
          exact s1 _ _ e2
        · rw [upd_ne npD]; exact h1
        · rw [upd_same, List.take_add_one, e, List.map_append]
          rfl
    · rintro H' ⟨s1, h1, h2, h3⟩
      refine ⟨by show 3 ≤ sizeLine; decide, fun L nL => q _ L D cs (s1.trans (Same.new nL)) (s1.free nL) h3 ⟨0, 0, upd_same, ?_, ne_of_none h2 nL, l60, by decide, by decide⟩⟩
      rw [upd_ne (ne_of_none h2 nL), h2, List.length_map, List.take_length]

theorem ok_pick {f fF : Addr} {fd dF : FuncData} (F : Fun K "_law_one_of" "_law_one_of" s__law_one_of f fd) (Fl : Df K mg "_law_shelf" s__law_shelf ["pantry", "many"] fF dF) (T : Txt K mg tk CS CB CF CT CM fE) : FnOk P w K mg base CX0 2 f fd ["pantry", "some"] spPick := by
  have GF : FnOk P w K mg base CX0 1 fF dF ["pantry", "many"] spFlick := ok_draw Fl.F T
  refine F.ok sc__law_one_of (fun vs H Q E h => ?_) (fun cdv A outer s H vs Q E hr h => ?_)
  · obtain ⟨L, p, xs, t, l, cs, rfl, _⟩ := h
    rfl
  · obtain ⟨L, p, xs, t, l, cs, rfl, hp, hpL, hx0, hx1, hL, ht, q⟩ := h
    refine ⟨_, (pss_one (ps_ret (pe_ix ix_seq (pv 1) (pe_call GF (hr.mono (by decide)) (by rfl) Fl.m Fl.F.kp Fl.b .nil pass0 (pa_cons (pv 0) (pa_cons (pe_callB call_len_seq (by rfl) T.n_len (by decide +kernel) (pa_cons (pv 1) pa_nil)) pa_nil))) (fun _ _ => rfl)))), ?_⟩
    have hq : SqL K H p xs ∨ SqT K H p xs := hp.elim (fun e => .inl (SqL.of e)) (fun e => .inr (SqT.of e))
    refine ⟨_, rfl, _, rfl, _, rfl, p, xs, rfl, hq, L, _, t, l, cs, rfl, by omega, log_small (by omega) (by omega), hL, ht, fun H' r k lan r0 rn => ?_⟩
    obtain ⟨j, rfl⟩ : ∃ j : Nat, r = (j : Int) := ⟨r.toNat, by omega⟩
    have hj : j < xs.length := by omega
    have hq' : SqT K H' p xs ∨ SqL K H' p xs := hp.elim (fun e => .inr (SqL.of (k _ _ hpL e))) (fun e => .inl (SqT.of (k _ _ hpL e)))
    exact ix_row hq' (atI_nat (List.getElem?_eq_getElem hj)) (q _ _ (List.getElem_mem hj) k lan)

end
end K17

set_option maxRecDepth 100000
set_option maxHeartbeats 8000000
namespace K17
open PySem PySem.Spec PyProof.Rows L2 Nv
abbrev s__law_dealt : Stmt := topS 30
theorem sc__law_dealt : FnScope ["pantry", "many", "left", "found"] ["pantry", "many"] (defScope s__law_dealt) := ⟨rfl, rfl, rfl, by decide +kernel, rfl, by decide +kernel, by decide +kernel⟩
abbrev s__law_hangs : Stmt := topS 31
theorem sc__law_hangs : FnScope ["right", "up", "found", "at", "each"] ["right", "up"] (defScope s__law_hangs) := ⟨rfl, rfl, rfl, by decide +kernel, rfl, by decide +kernel, by decide +kernel⟩
abbrev s__law_must : Stmt := topS 32
theorem sc__law_must : FnScope ["right", "up", "found", "each"] ["right", "up"] (defScope s__law_must) := ⟨rfl, rfl, rfl, by decide +kernel, rfl, by decide +kernel, by decide +kernel⟩
theorem shaped_listI (ns : List Nat) : SeqAt.shaped (.list (pI ns)) = true := by
  have h := shaped_ints (ns.map fun n : Nat => (n : Int))
  have e : (ns.map fun n : Nat => (n : Int)).map PyData.int = pI ns := by
    unfold pI
    rw [List.map_map]
    rfl
  rw [e] at h
  exact h
theorem eqv_nilI (ns : List Nat) : PyData.eqv (.list (pI ns)) (.list []) = ns.isEmpty := by
  cases ns with
  | nil => simp [pI, PyData.eqv, PyData.eqvAll]
  | cons c r => simp [pI, PyData.eqv, PyData.eqvAll]
def spDealt : Sp := fun vs H Q _ => ∃ (L : Addr) (n t : Nat) (l : Addr) (cs : List Int), vs = [.ref L, .int (n : Int)] ∧ 1 ≤ n ∧ n ≤ 1000 ∧ Lan H L l cs t ∧ t + n ≤ 900000 ∧
  ∀ (H' : Hp) (p : Addr) (ns : List Nat), Keep L H H' → Lan H' L l cs (t + n) → H p = none → p ≠ L → H' p = some (.lst (iV ns)) → Ord ns → ns.length = n → Q (.ref p) H'
theorem rg_iV (n : Nat) : rgV 0 (n : Int) = iV (List.range n) := by
  unfold rgV iV
  rw [show ((n : Int) - 0).toNat = n from by omega]
  refine List.map_congr_left fun i _ => ?_
  rw [Int.zero_add]
theorem perm_pop {α : Type} : ∀ (l : List α) (k : Nat) (h : k < l.length), (l[k] :: l.eraseIdx k).Perm l
  | x :: l, 0, _ => List.Perm.refl _
  | x :: l, k + 1, h => by
    have hk : k < l.length := by simpa using h
    have ih := perm_pop l k hk
    exact (List.Perm.swap x l[k] (l.eraseIdx k)).trans (ih.cons x)
theorem iV_erase : ∀ (ns : List Nat) (k : Nat), (iV ns).eraseIdx k = iV (ns.eraseIdx k)
  | [], _ => rfl
  | _ :: _, 0 => rfl
  | n :: ns, k + 1 => by
    show V.int (n : Int) :: (iV ns).eraseIdx k = V.int (n : Int) :: iV (ns.eraseIdx k)
    rw [iV_erase ns k]
theorem ord_perm {ns : List Nat} {n : Nat} (h : ns.Perm (List.range n)) (hn : 1 ≤ n) : Ord ns ∧ ns.length = n := by
  have l : ns.length = n := by rw [h.length_eq, List.length_range]
  refine ⟨⟨fun e => ?_, fun m hm => ?_, h.nodup_iff.mpr List.nodup_range⟩, l⟩
  · rw [e] at l
    have : ([] : List Nat).length = 0 := rfl
    omega
  · rw [l]
    exact List.mem_range.mp (h.mem_iff.mp hm)
section
variable {P : Program} {w : World} {K : PySem.W.Frag} {mg : Str → Option Value} {base : Heap} {tk : Tok} {CS CB CF CT CM fE : Addr}
theorem ok_dealt {f fS : Addr} {fd dS : FuncData} (F : Fun K "_law_dealt" "_law_dealt" s__law_dealt f fd) (D__law_shelf : Df K mg "_law_shelf" s__law_shelf ["pantry", "many"] fS dS) (T : Txt K mg tk CS CB CF CT CM fE) : FnOk P w K mg base CX0 2 f fd ["pantry", "many"] spDealt := by
  have G__law_shelf : FnOk P w K mg base CX0 1 fS dS ["pantry", "many"] spFlick := ok_draw D__law_shelf.F T
  refine F.ok sc__law_dealt (fun vs H Q E h => ?_) (fun cdv A outer s H vs Q E hr h => ?_)
  · obtain ⟨L, n, t, l, cs, rfl, _⟩ := h
    rfl
  · obtain ⟨L, n, t, l, cs, rfl, n1, n2, hL, ht, q⟩ := h
    have big : sizeLine = 16777216 := by decide
    refine ⟨_, (pss_cons (Nv.ps_parN (i := 2) (j := 3) (by rfl) sc__law_dealt.nd rfl rfl (by decide) rfl rfl (pa_cons (pe_listRg (by rfl) (by rfl) T.n_list (prg_1 (by rfl) T.n_range (pv 1))) (pa_cons (Nv.pe_lstN pa_nil) pa_nil)) (by rfl))
(pss_cons (ps_while PassesOwn.never (pt_cmpR (op_neD hr.units) (pv 2) (Nv.pe_lstN pa_nil) (nomark _))
(pss_one (ps_expr (pe_bm PySem.F.plainAttrs_list PySem.F.slot_list_append PySem.F.type_list_append mt_append (pv 3) (pa_cons (pe_bm PySem.F.plainAttrs_list PySem.F.slot_list_pop PySem.F.type_list_pop mt_popAt (pv 2) (pa_cons (pe_call G__law_shelf (hr.mono (by decide)) (by rfl) D__law_shelf.m D__law_shelf.F.kp D__law_shelf.b .nil pass0 (pa_cons (pv 0) (pa_cons (pe_callB (Nv.cr_lenSeq (K := K) rfl) (by rfl) T.n_len (by decide +kernel) (pa_cons (pv 2) pa_nil)) pa_nil))) pa_nil)) pa_nil)))))
(pss_one (ps_ret (pv 3))))), ?_⟩
    refine ⟨_, rfl, (n : Int), rfl, .of_le (by omega) (by omega) (by omega) (by omega), fun a na => ?_⟩
    rw [rg_iV]
    have sa : Same H (upd H a (.lst (iV (List.range n)))) := Same.neu na
    have ea : (upd H a (.lst (iV (List.range n)))) a = some (.lst (iV (List.range n))) := upd_same
    generalize upd H a (.lst (iV (List.range n))) = H1 at sa ea ⊢
    refine ⟨by show 0 ≤ sizeLine; decide, fun b H2 nb eb sb => ⟨_, _, rfl, fun σ1 c1 => ?_⟩⟩
    obtain rfl : σ1 = [some (.ref L), some (.int (n : Int)), some (.ref a), some (.ref b)] := c1
    obtain ⟨aL, al⟩ := Lan.apart hL na
    obtain ⟨bL, bl⟩ := Lan.apart (Lan.same hL sa) nb
    have ab : a ≠ b := ne_of_none ea nb
    have nb0 : H b = none := sa.free nb
    refine ⟨fun m σ H' => σ = [some (.ref L), some (.int (n : Int)), some (.ref a), some (.ref b)] ∧ ∃ ls fs : List Nat, H' a = some (.lst (iV ls)) ∧ H' b = some (.lst (iV fs)) ∧ (fs ++ ls).Perm (List.range n) ∧ Keep L H H' ∧ Lan H' L l cs (t + fs.length) ∧ m = ls.length,
      ⟨_, rfl, List.range n, [], sb _ _ ea, eb, by rw [List.nil_append], Same.keep (sa.trans sb), Lan.same (Lan.same hL sa) sb, rfl⟩, ?_⟩
    rintro m σ H3 ⟨rfl, ls, fs, ha, hb, pm, kp, lan, rfl⟩
    have tot : fs.length + ls.length = n := by
      have := pm.length_eq
      rwa [List.length_append, List.length_range] at this
    refine ⟨_, rfl, by show 0 ≤ sizeLine; decide, fun e H4 ne ee se => ⟨.list (pI ls), .list [], .lst (SqL.of (se _ _ ha)) (dp_iV ls), .lst (SqL.of ee) .nil, shaped_listI ls, by decide +kernel, _, rfl, ?_⟩⟩
    rw [eqv_nilI]
    have lan4 := Lan.same lan se
    have kp4 : Keep L H H4 := kp.trans (Same.keep se)
    refine ifb (fun z => ?_) (fun z => ?_)
    · have lne : ls ≠ [] := fun e => by rw [e] at z; cases z
      have lpos := List.length_pos_iff.mpr lne
      refine ⟨fun σ' H' => σ' = [some (.ref L), some (.int (n : Int)), some (.ref a), some (.ref b)] ∧ ∃ ls' fs' : List Nat, H' a = some (.lst (iV ls')) ∧ H' b = some (.lst (iV fs')) ∧ (fs' ++ ls').Perm (List.range n) ∧ Keep L H H' ∧ Lan H' L l cs (t + fs'.length) ∧ ls'.length < ls.length, ?_, ?_⟩
      · rintro σ' H' ⟨e, ls', fs', h1, h2, h3, h4, h5, h6⟩
        exact ⟨ls'.length, h6, e, ls', fs', h1, h2, h3, h4, h5, rfl⟩
      · have ha4 := se _ _ ha
        have hb4 := se _ _ hb
        refine ⟨_, rfl, .inl ⟨rfl, _, SqL.of hb4⟩, _, rfl, .inl ⟨rfl, _, SqL.of ha4⟩, _, rfl, _, rfl, a, _, rfl, .inl (SqL.of ha4), L, ((iV ls).length : Int), t + fs.length, l, cs, rfl, by rw [iV_len]; omega, log_small (by rw [iV_len]; omega) (by rw [iV_len]; omega), lan4, by omega, fun H5 r k5 lan5 r0 r1 => ?_⟩
        rw [iV_len] at r1
        obtain ⟨j, rfl⟩ : ∃ j : Nat, r = (j : Int) := ⟨r.toNat, by omega⟩
        have hj : j < ls.length := by omega
        have ha5 := k5 _ _ aL ha4
        have hb5 := k5 _ _ bL hb4
        refine ⟨a, _, (j : Int), j, .int ((ls[j] : Nat) : Int), rfl, rfl, ha5, by omega, by omega, ?_, iV_get (List.getElem?_eq_getElem hj), b, iV fs, _, rfl, rfl, ?_, by rw [iV_len]; omega, rfl, ls.eraseIdx j, fs ++ [ls[j]], ?_, ?_, ?_, ?_, ?_, ?_⟩
        · rw [iV_len, seqIndex_of (by omega) (by omega)]
          rfl
        · rw [upd_ne ab.symm]
          exact hb5
        · rw [upd_ne ab, upd_same, iV_erase]
        · rw [upd_same]
          unfold iV
          rw [List.map_append]
          rfl
        · rw [List.append_assoc]
          exact ((perm_pop ls j hj).append_left fs).trans pm
        · intro c o nc e
          rw [upd_ne (ne_of_none e nb0), upd_ne (ne_of_none e na)]
          exact k5 _ _ nc (kp4 _ _ nc e)
        · rw [List.length_append]
          exact Lan.upd (Lan.upd lan5 aL al) bL bl
        · rw [List.length_eraseIdx_of_lt hj]
          omega
    · have lnil : ls = [] := by
        cases ls with
        | nil => rfl
        | cons c r => cases z
      rw [lnil, List.append_nil] at pm
      obtain ⟨o, ln⟩ := ord_perm pm n1
      exact ⟨_, rfl, q H4 b fs kp4 (by rw [ln] at lan4; exact lan4) nb0 bL (se _ _ hb) o ln⟩
end
end K17

set_option maxRecDepth 100000
set_option maxHeartbeats 8000000
namespace K17
open PySem PySem.Spec PyProof.Rows L2 Nv
theorem inV_iV (m : Nat) : ∀ F : List Nat, inV (.int (m : Int)) (iV F) = decide (m ∈ F)
  | [] => rfl
  | n :: F => by
    have ih := inV_iV m F
    have e : inV (.int (m : Int)) (iV (n :: F)) = (eqV (.int (n : Int)) (.int (m : Int)) || inV (.int (m : Int)) (iV F)) := rfl
    rw [e, ih]
    have e2 : eqV (.int (n : Int)) (.int (m : Int)) = decide (n = m) := by
      show ((n : Int) == (m : Int)) = _
      by_cases h : n = m
      · subst h; simp
      · have : (n : Int) ≠ (m : Int) := by omega
        simp [h, this]
    rw [e2, ← Bool.decide_or]
    congr 1
    rw [List.mem_cons]
    exact propext ⟨fun h => h.imp Eq.symm id, fun h => h.imp Eq.symm id⟩
theorem flat_iV (F : List Nat) : (iV F).all flatV = true := by
  rw [List.all_eq_true]
  intro v hv
  unfold iV at hv
  obtain ⟨n, _, rfl⟩ := List.mem_map.mp hv
  rfl
/-- of one or two that are sorted, those that are new -/
theorem fresh_of {ns : List Int} {x y : Nat} {F : List Nat} (sorted : ns.Pairwise (· < ·)) (mem : ∀ k : Int, k ∈ ns ↔ decide (k ∈ [(x : Int), (y : Int)]) = true) :
    ∃ X : List Nat, ((ns.map V.int).filter fun v => !inV v (iV F)).map id = iV X ∧ X.Nodup ∧ (∀ m ∈ X, m ∉ F ∧ (m = x ∨ m = y)) ∧ (x ∈ F ∨ x ∈ X) ∧ (y ∈ F ∨ y ∈ X) := by
  have mem2 : ∀ k : Int, k ∈ ns ↔ k = (x : Int) ∨ k = (y : Int) := fun k => by rw [mem k, decide_eq_true_eq]; simp
  have nat : ∀ k ∈ ns, ((k.toNat : Nat) : Int) = k := fun k hk => by
    rcases (mem2 k).mp hk with h | h <;> omega
  have eG : ns = (ns.map Int.toNat).map fun m : Nat => (m : Int) := by
    rw [List.map_map]
    exact (List.map_id' _ |>.symm.trans (List.map_congr_left fun k hk => (nat k hk).symm))
  generalize hG : ns.map Int.toNat = G at eG
  have memG : ∀ m : Nat, m ∈ G ↔ m = x ∨ m = y := fun m => by
    have h := mem2 (m : Int)
    rw [eG] at h
    constructor
    · intro hm
      have := h.mp (List.mem_map.mpr ⟨m, hm, rfl⟩)
      omega
    · intro hm
      obtain ⟨n, hn, e⟩ := List.mem_map.mp (h.mpr (by omega))
      have : n = m := by omega
      rwa [← this]
  have ndG : G.Nodup := by
    have p : (G.map fun m : Nat => (m : Int)).Pairwise (· < ·) := by rw [← eG]; exact sorted
    exact (List.pairwise_map.mp p).imp fun h e => by omega
  refine ⟨G.filter fun m => !decide (m ∈ F), ?_, ndG.filter _, fun m hm => ?_, ?_, ?_⟩
  · rw [List.map_id, eG, List.map_map]
    show ((G.map fun m : Nat => V.int (m : Int)).filter _) = iV _
    rw [List.filter_map]
    unfold iV
    congr 1
    refine List.filter_congr fun m _ => ?_
    show (!inV (.int (m : Int)) (iV F)) = _
    rw [inV_iV]
  · rw [List.mem_filter] at hm
    obtain ⟨h1, h2⟩ := hm
    exact ⟨by simpa using h2, (memG m).mp h1⟩
  · by_cases h : x ∈ F
    · exact .inl h
    · exact .inr (List.mem_filter.mpr ⟨(memG x).mpr (.inl rfl), by simpa using h⟩)
  · by_cases h : y ∈ F
    · exact .inl h
    · exact .inr (List.mem_filter.mpr ⟨(memG y).mpr (.inr rfl), by simpa using h⟩)
theorem Fnd.add {r u F X : List Nat} (h : Fnd r u F) (nd : X.Nodup) (c : ∀ m ∈ X, m ∉ F ∧ m < r.length ∧ Rch r u m) : Fnd r u (F ++ X) :=
  ⟨List.nodup_append.mpr ⟨h.nd, nd, fun a ha b hb e => (c b hb).1 (e ▸ ha)⟩, fun m hm => (List.mem_append.mp hm).elim (h.lt m) fun z => (c m z).2.1, fun m hm => (List.mem_append.mp hm).elim (h.re m) fun z => (c m z).2.2, List.mem_append_left _ h.z⟩
def spHangs : Sp := fun vs H Q _ => ∃ (a b : Addr) (r u : List Nat), vs = [.ref a, .ref b] ∧ H a = some (.lst (iV r)) ∧ H b = some (.lst (iV u)) ∧ Ord r ∧ Ord u ∧ r.length = u.length ∧ r.length ≤ 1000 ∧
  ∀ (c : Bool) (H' : Hp), Same H H' → (c = true ↔ All r u) → Q (.bl c) H'
section
variable {P : Program} {w : World} {K : PySem.W.Frag} {mg : Str → Option Value} {base : Heap} {tk : Tok} {CS CB CF CT CM fE : Addr}
theorem ok_hangs {f : Addr} {fd : FuncData} (F : Fun K "_law_hangs" "_law_hangs" s__law_hangs f fd) (T : Txt K mg tk CS CB CF CT CM fE) : FnOk P w K mg base CX0 1 f fd ["right", "up"] spHangs := by
  refine F.ok sc__law_hangs (fun vs H Q E h => ?_) (fun cdv A outer s H vs Q E hr h => ?_)
  · obtain ⟨a, b, r, u, rfl, _⟩ := h
    rfl
  · obtain ⟨a, b, r, u, rfl, ha, hb, or_, ou, hlen, few, q⟩ := h
    have big : sizeLine = 16777216 := by decide
    refine ⟨_, (pss_cons (ps_asg (Nv.pe_tupN (pa_cons (Nv.pe_lstN (pa_cons pe_int pa_nil)) (pa_cons pe_int pa_nil))) (pg_tup (by rfl) (pgs_cons (Nv.pg_nameN (i := 2) sc__law_hangs.nd rfl (by first | exact Or.inl rfl | exact Or.inr rfl)) (pgs_cons (Nv.pg_nameN (i := 3) sc__law_hangs.nd rfl (by first | exact Or.inl rfl | exact Or.inr rfl)) pgs_nil))))
(pss_cons (ps_while PassesOwn.never (pt_cmpR op_lt (pv 3) (pe_callB (Nv.cr_lenSeq (K := K) rfl) (by rfl) T.n_len (by decide +kernel) (pa_cons (pv 2) pa_nil)) (nomark _))
(pss_cons (Nv.ps_setN (i := 2) sc__law_hangs.nd rfl (by first | exact Or.inl rfl | exact Or.inr rfl) (pe_op Nv.op_catN (pv 2) (pe_lc (own := [(("each" : Str), 4)]) (g := gName 4) (by rfl) sc__law_hangs.nd (pi_list (pe_callB (cr_sortedSet rfl) (by rfl) T.n_sorted (by decide +kernel) (pa_cons (pe_callTy (Nv.cr_setI rfl) (by rfl) T.n_set (by decide +kernel) (pa_cons (Nv.pe_lstN (pa_cons (pe_ix (Nv.ix_listK (K := K) rfl) (pv 0) (pe_ix (Nv.ix_listK (K := K) rfl) (pv 2) (pv 3) (fun _ _ => rfl)) (fun _ _ => rfl)) (pa_cons (pe_ix (Nv.ix_listK (K := K) rfl) (pv 1) (pe_ix (Nv.ix_listK (K := K) rfl) (pv 2) (pv 3) (fun _ _ => rfl)) (fun _ _ => rfl)) pa_nil))) pa_nil)) pa_nil))) (blkOk_by (N := ["right", "up", "found", "at", "each"]) (sc := defScope s__law_hangs) (by decide +kernel)) (fun _ _ _ _ _ => pg_name (i := 4) sc__law_hangs.nd rfl (by first | exact Or.inl rfl | exact Or.inr rfl)) (fun _ _ _ _ _ => (pts_one (pt_cmpR (Nv.op_ninK (K := K) rfl) (pv 4) (pv 2) (by rfl)))) (fun _ _ _ _ _ => (pv 4)))))
(pss_one (Nv.ps_setN (i := 3) sc__law_hangs.nd rfl (by first | exact Or.inl rfl | exact Or.inr rfl) (pe_op op_add (pv 3) pe_int)))))
(pss_one (ps_ret (pe_cmpR op_eq (pe_callB (Nv.cr_lenSeq (K := K) rfl) (by rfl) T.n_len (by decide +kernel) (pa_cons (pv 2) pa_nil)) (pe_callB (Nv.cr_lenSeq (K := K) rfl) (by rfl) T.n_len (by decide +kernel) (pa_cons (pv 0) pa_nil)) (nomark _)))))), ?_⟩
    have rpos : 0 < r.length := List.length_pos_iff.mpr or_.ne
    refine ⟨by show 1 ≤ sizeLine; decide, fun f0 H1 nf e1 s1 => ⟨by show 2 ≤ sizeLine; decide, fun t0 H2 nt et st => ⟨t0, _, rfl, SqT.of et, rfl, _, _, rfl, fun σ1 c1 => ⟨_, _, rfl, fun σ2 c2 => ⟨rfl, ?_⟩⟩⟩⟩⟩
    subst c1
    obtain rfl : σ2 = [some (.ref a), some (.ref b), some (.ref f0), some (.int 0), none] := c2
    refine ⟨fun n σ H' => ∃ (G : List Nat) (k : Nat) (g : Addr) (v4 : Option V), σ = [some (.ref a), some (.ref b), some (.ref g), some (.int (k : Int)), v4] ∧ Same H H' ∧ H' g = some (.lst (iV G)) ∧ Fnd r u G ∧ k ≤ G.length ∧ (∀ i m, i < k → G[i]? = some m → Closed r u G m) ∧ n = r.length - k,
      ⟨_, [0], 0, f0, _, rfl, s1.trans st, st _ _ e1, ⟨by simp, fun m hm => by rw [List.mem_singleton.mp hm]; exact rpos, fun m hm => by rw [List.mem_singleton.mp hm]; exact .zero, by simp⟩, Nat.zero_le _, fun i m h => absurd h (Nat.not_lt_zero i), rfl⟩, ?_⟩
    rintro n σ H3 ⟨G, k, g, v4, rfl, sm, hg, ok, hk, cl, rfl⟩
    refine ⟨_, rfl, _, rfl, g, iV G, rfl, .inl (SqL.of hg), _, _, rfl, rfl, _, rfl, ifb (fun z => ?_) (fun z => ?_)⟩
    · have hlt : k < G.length := by
        have := of_decide_eq_true z
        rw [iV_len] at this
        omega
      have few2 := ok.few
      refine ⟨fun σ' H' => ∃ (G' : List Nat) (g : Addr) (v4 : Option V), σ' = [some (.ref a), some (.ref b), some (.ref g), some (.int ((k + 1 : Nat) : Int)), v4] ∧ Same H H' ∧ H' g = some (.lst (iV G')) ∧ Fnd r u G' ∧ k + 1 ≤ G'.length ∧ (∀ i m, i < k + 1 → G'[i]? = some m → Closed r u G' m), ?_, ?_⟩
      · rintro σ' H' ⟨G', g', w4, e, h1, h2, h3, h4, h5⟩
        exact ⟨r.length - (k + 1), by omega, G', k + 1, g', w4, e, h1, h2, h3, h4, h5, rfl⟩
      · obtain ⟨m, hm⟩ : ∃ m, G[k]? = some m := ⟨G[k], List.getElem?_eq_getElem hlt⟩
        have hmr : m < r.length := ok.lt m (List.mem_of_getElem? hm)
        obtain ⟨x, hx, lx⟩ := or_.get hmr
        obtain ⟨y, hy, ly⟩ := ou.get (i := m) (by omega)
        have rm := ok.re m (List.mem_of_getElem? hm)
        refine ⟨_, rfl, pLc ?_⟩
        refine ⟨_, rfl, _, rfl, _, rfl, g, _, _, _, rfl, rfl, SqL.of hg, atI_nat (iV_get hm), a, _, _, _, rfl, rfl, SqL.of (sm _ _ ha), atI_nat (iV_get hx), _, rfl, _, rfl, _, rfl, g, _, _, _, rfl, rfl, SqL.of hg, atI_nat (iV_get hm), b, _, _, _, rfl, rfl, SqL.of (sm _ _ hb), atI_nat (iV_get hy), by show 2 ≤ sizeLine; decide, fun l H4 nl el sl => ?_⟩
        refine ⟨l, [(x : Int), (y : Int)], rfl, .inl (SqL.of el), by show 2 ≤ 1000; decide, fun s0 c H5 ns card lc es ss => ⟨s0, _, c, rfl, es, by have : ([(x : Int), (y : Int)] : List Int).length = 2 := rfl; omega, fun ns p sorted mem ln np => ?_⟩⟩
        obtain ⟨X, eX, ndX, cX, fx, fy⟩ := fresh_of (F := G) sorted mem
        have s35 : Same H3 H5 := sl.trans ss
        have s56 : Same H5 (upd H5 p (.lst (ns.map V.int))) := Same.neu np
        have ep : (upd H5 p (.lst (ns.map V.int))) p = some (.lst (ns.map V.int)) := upd_same
        generalize upd H5 p (.lst (ns.map V.int)) = H6 at s56 ep ⊢
        have hg6 := s56 _ _ (s35 _ _ hg)
        refine lc_rowL (K := K) (a := p) (xs := ns.map V.int) (i := 4) (vs := [4]) (σ := [some (.ref a), some (.ref b), some (.ref g), some (.int (k : Int)), v4]) (tt := tTest (tOp (rIn K true) (tVar 4) (tVar 2))) (te := tVar 4) id (fun v => !inV v (iV G)) (SqL.of ep) (by rw [List.length_map]; have : ([(x : Int), (y : Int)] : List Int).length = 2 := rfl; omega) (fun _ => rfl)
          (fun v H' R hv s' kk => ?_) (fun v H' R _ _ s' kk => ⟨_, rfl, kk H' (Same.refl H')⟩) (fun D H7 nD eD s7 => ?_)
        · obtain ⟨i, _, rfl⟩ := List.mem_map.mp hv
          exact ⟨_, rfl, _, rfl, g, iV G, rfl, .inl (SqL.of (s' _ _ hg6)), rfl, flat_iV G, _, rfl, kk H' (Same.refl H')⟩
        · rw [eX] at eD
          have lX : X.length ≤ r.length := by
            have := (ok.add ndX fun m hm => ⟨(cX m hm).1, by rcases (cX m hm).2 with e | e <;> omega, by
              rcases (cX m hm).2 with e | e
              · rw [e]; exact .right rm hx
              · rw [e]; exact .up rm hy⟩).few
            rw [List.length_append] at this
            omega
          refine ⟨g, D, _, _, rfl, rfl, s7 _ _ hg6, eD, by rw [iV_len, iV_len]; omega, fun N H8 nN eN s8 => fun σ4 c4 => ?_⟩
          obtain rfl : σ4 = [some (.ref a), some (.ref b), some (.ref N), some (.int (k : Int)), v4] := c4
          refine ⟨_, rfl, _, _, rfl, rfl, fun σ5 c5 => ?_⟩
          obtain rfl : σ5 = [some (.ref a), some (.ref b), some (.ref N), some (.int ((k : Int) + 1)), v4] := c5
          have eNX : H8 N = some (.lst (iV (G ++ X))) := by
            rw [eN]
            unfold iV
            rw [List.map_append]
          refine ⟨G ++ X, N, v4, rfl, sm.trans (s35.trans (s56.trans (s7.trans s8))), eNX, ok.add ndX fun m hm => ⟨(cX m hm).1, by rcases (cX m hm).2 with e | e <;> omega, ?_⟩, by rw [List.length_append]; omega, fun i c hi hc => ?_⟩
          · rcases (cX m hm).2 with e | e
            · rw [e]; exact .right rm hx
            · rw [e]; exact .up rm hy
          · by_cases e : i = k
            · subst e
              rw [List.getElem?_append_left hlt, hm] at hc
              cases hc
              exact ⟨fun p hp => by rw [hx] at hp; cases hp; exact List.mem_append.mpr fx, fun p hp => by rw [hy] at hp; cases hp; exact List.mem_append.mpr fy⟩
            · rw [List.getElem?_append_left (by omega)] at hc
              exact (cl i c (by omega) hc).more
    · have hge : G.length ≤ k := by
        have := of_decide_eq_false z
        rw [iV_len] at this
        omega
      refine ⟨_, rfl, g, _, rfl, .inl (SqL.of hg), _, rfl, a, _, rfl, .inl (SqL.of (sm _ _ ha)), rfl, q _ H3 sm ?_⟩
      rw [← ok.all fun m hm => ?_, iV_len, iV_len, decide_eq_true_eq]
      · constructor
        · intro h
          injection h with h
          omega
        · intro h
          rw [h]
      · obtain ⟨i, hi⟩ := List.mem_iff_getElem?.mp hm
        have : i < G.length := (List.getElem?_eq_some_iff.mp hi).1
        exact cl i m (by omega) hi
end
/-! ### what must be a corner -/
def mustL (r u : List Nat) (n : Nat) : List Nat := (List.range n).flatMap fun i => if oneAt r u i ≠ oneAt u r i then [oneAt r u i, oneAt u r i] else []
theorem mustL_succ (r u : List Nat) (n : Nat) : mustL r u (n + 1) = mustL r u n ++ (if oneAt r u n ≠ oneAt u r n then [oneAt r u n, oneAt u r n] else []) := by
  unfold mustL
  rw [List.range_succ, List.flatMap_append]
  simp
theorem mustL_len (r u : List Nat) : ∀ n, (mustL r u n).length ≤ 2 * n
  | 0 => Nat.le_refl _
  | n + 1 => by
    have ih := mustL_len r u n
    rw [mustL_succ, List.length_append]
    split <;> simp <;> omega
theorem mem_mustL {r u : List Nat} {n m : Nat} : m ∈ mustL r u n ↔ ∃ i, i < n ∧ oneAt r u i ≠ oneAt u r i ∧ (m = oneAt r u i ∨ m = oneAt u r i) := by
  unfold mustL
  rw [List.mem_flatMap]
  constructor
  · rintro ⟨i, hi, h⟩
    by_cases e : oneAt r u i ≠ oneAt u r i
    · rw [if_pos e] at h
      exact ⟨i, List.mem_range.mp hi, e, by simpa using h⟩
    · rw [if_neg e] at h
      cases h
  · rintro ⟨i, hi, e, h⟩
    exact ⟨i, List.mem_range.mpr hi, by rw [if_pos e]; simpa using h⟩
theorem corn_must {r u c : List Nat} : Corn r u c ↔ ∀ m ∈ mustL r u r.length, c[m]? ≠ some 0 := by
  constructor
  · intro h m hm e
    obtain ⟨i, hi, ne, hmi⟩ := mem_mustL.mp hm
    refine h i hi ⟨ne, ?_⟩
    rcases hmi with rfl | rfl
    · exact .inl e
    · exact .inr e
  · rintro h i hi ⟨ne, e | e⟩
    · exact h _ (mem_mustL.mpr ⟨i, hi, ne, .inl rfl⟩) e
    · exact h _ (mem_mustL.mpr ⟨i, hi, ne, .inr rfl⟩) e
theorem mustL_lt {r u : List Nat} (o1 : Ord r) (o2 : Ord u) (l : r.length = u.length) : ∀ m ∈ mustL r u r.length, m < r.length := fun m hm => by
  obtain ⟨i, hi, _, h⟩ := mem_mustL.mp hm
  obtain ⟨_, _, _, l1⟩ := oneAt_lt o1 o2 l hi
  obtain ⟨_, _, _, l2⟩ := oneAt_lt o2 o1 l.symm (i := i) (by omega)
  rcases h with rfl | rfl <;> omega
def spMust : Sp := fun vs H Q _ => ∃ (a b : Addr) (r u : List Nat), vs = [.ref a, .ref b] ∧ H a = some (.lst (iV r)) ∧ H b = some (.lst (iV u)) ∧ Ord r ∧ Ord u ∧ r.length = u.length ∧ r.length ≤ 1000 ∧
  ∀ (p : Addr) (H' : Hp), Same H H' → H p = none → H' p = some (.lst (iV (mustL r u r.length))) → Q (.ref p) H'
section
variable {P : Program} {w : World} {K : PySem.W.Frag} {mg : Str → Option Value} {base : Heap} {tk : Tok} {CS CB CF CT CM fE : Addr}
theorem ok_must {f : Addr} {fd : FuncData} (F : Fun K "_law_must" "_law_must" s__law_must f fd) (T : Txt K mg tk CS CB CF CT CM fE) : FnOk P w K mg base CX0 1 f fd ["right", "up"] spMust := by
  refine F.ok sc__law_must (fun vs H Q E h => ?_) (fun cdv A outer s H vs Q E hr h => ?_)
  · obtain ⟨a, b, r, u, rfl, _⟩ := h
    rfl
  · obtain ⟨a, b, r, u, rfl, ha, hb, or_, ou, l, few, q⟩ := h
    have big : sizeLine = 16777216 := by decide
    refine ⟨_, (pss_cons (Nv.ps_setN (i := 2) sc__law_must.nd rfl (by first | exact Or.inl rfl | exact Or.inr rfl) (Nv.pe_lstN pa_nil))
(pss_cons (ps_for PassesOwn.never rfl (pi_range1 (by rfl) T.n_range (pa_cons (pe_callB (Nv.cr_lenSeq (K := K) rfl) (by rfl) T.n_len (by decide +kernel) (pa_cons (pv 0) pa_nil)) pa_nil)) (Nv.pg_nameN (i := 3) sc__law_must.nd rfl (by first | exact Or.inl rfl | exact Or.inr rfl))
(pss_one (ps_if (pt_cmpR op_ne (pe_ix (Nv.ix_listK (K := K) rfl) (pv 1) (pe_ix (Nv.ix_listK (K := K) rfl) (pv 0) (pv 3) (fun _ _ => rfl)) (fun _ _ => rfl)) (pe_ix (Nv.ix_listK (K := K) rfl) (pv 0) (pe_ix (Nv.ix_listK (K := K) rfl) (pv 1) (pv 3) (fun _ _ => rfl)) (fun _ _ => rfl)) (nomark _))
(pss_one (Nv.ps_setN (i := 2) sc__law_must.nd rfl (by first | exact Or.inl rfl | exact Or.inr rfl) (pe_op Nv.op_catN (pv 2) (Nv.pe_lstN (pa_cons (pe_ix (Nv.ix_listK (K := K) rfl) (pv 1) (pe_ix (Nv.ix_listK (K := K) rfl) (pv 0) (pv 3) (fun _ _ => rfl)) (fun _ _ => rfl)) (pa_cons (pe_ix (Nv.ix_listK (K := K) rfl) (pv 0) (pe_ix (Nv.ix_listK (K := K) rfl) (pv 1) (pv 3) (fun _ _ => rfl)) (fun _ _ => rfl)) pa_nil))))))
pss_nil)))
(pss_one (ps_ret (pv 2))))), ?_⟩
    refine ⟨by show 0 ≤ sizeLine; decide, fun f0 H1 nf e1 s1 => fun σ1 c1 => ?_⟩
    obtain rfl : σ1 = [some (.ref a), some (.ref b), some (.ref f0), none] := c1
    refine ⟨_, rfl, a, _, rfl, .inl (SqL.of (s1 _ _ ha)), (r.length : Int), by rw [iV_len], by omega, by omega, ?_⟩
    rw [show ((r.length : Int)).toNat = r.length from by omega]
    refine for_range (lo := 0) (n := r.length) (fun i σ H' => ∃ (g : Addr) (v3 : Option V), σ = [some (.ref a), some (.ref b), some (.ref g), v3] ∧ Same H H' ∧ H g = none ∧ H' g = some (.lst (iV (mustL r u i)))) ⟨f0, none, rfl, s1, nf, e1⟩ ?_ ?_
    · rintro i σ H' hi ⟨g, v3, rfl, sm, ng, eg⟩
      obtain ⟨k, e1, e2, lt1⟩ := oneAt_lt or_ ou l hi
      obtain ⟨m, e3, e4, lt2⟩ := oneAt_lt ou or_ l.symm (i := i) (by omega)
      have ha' := sm _ _ ha
      have hb' := sm _ _ hb
      refine fun σ1 c1 => ?_
      obtain rfl : σ1 = [some (.ref a), some (.ref b), some (.ref g), some (.int (0 + (i : Int)))] := c1
      rw [Int.zero_add]
      refine ⟨_, rfl, _, rfl, _, rfl, a, _, _, _, rfl, rfl, SqL.of ha', atI_nat (iV_get e1), b, _, _, _, rfl, rfl, SqL.of hb', atI_nat (iV_get e2), _, rfl, _, rfl, _, rfl, b, _, _, _, rfl, rfl, SqL.of hb', atI_nat (iV_get e3), a, _, _, _, rfl, rfl, SqL.of ha', atI_nat (iV_get e4), rfl, _, rfl, ifb (fun z => ?_) (fun z => ?_)⟩
      · have ne := neV.mp z
        refine ⟨_, rfl, _, rfl, _, rfl, _, rfl, a, _, _, _, rfl, rfl, SqL.of ha', atI_nat (iV_get e1), b, _, _, _, rfl, rfl, SqL.of hb', atI_nat (iV_get e2), _, rfl, _, rfl, _, rfl, b, _, _, _, rfl, rfl, SqL.of hb', atI_nat (iV_get e3), a, _, _, _, rfl, rfl, SqL.of ha', atI_nat (iV_get e4), by show 2 ≤ sizeLine; decide, fun t H2 nt et st => ?_⟩
        refine ⟨g, t, _, _, rfl, rfl, st _ _ eg, et, ?_, fun N H3 nN eN s3 => fun σ2 c2 => ?_⟩
        · rw [iV_len]
          have := mustL_len r u i
          show _ + 2 ≤ _
          omega
        · obtain rfl : σ2 = [some (.ref a), some (.ref b), some (.ref N), some (.int (i : Int))] := c2
          refine ⟨N, _, rfl, sm.trans (st.trans s3), sm.free (st.free nN), ?_⟩
          rw [eN, mustL_succ, if_pos ne]
          unfold iV
          rw [List.map_append]
          rfl
      · have e : oneAt r u i = oneAt u r i := Classical.byContradiction fun h => by
          rw [neV.mpr h] at z
          cases z
        refine ⟨g, _, rfl, sm, ng, ?_⟩
        rw [eg, mustL_succ, if_neg (fun h => h e), List.append_nil]
    · rintro σ H' ⟨g, v3, rfl, sm, ng, eg⟩
      exact ⟨_, rfl, q g H' sm ng eg⟩
end
end K17

set_option maxRecDepth 100000
set_option maxHeartbeats 8000000
namespace K17
open PySem PySem.Spec PyProof.Rows L2 Nv
abbrev s__law_bent : Stmt := topS 33
theorem sc__law_bent : FnScope ["pantry", "row", "at", "many", "odd", "twice"] ["pantry", "row"] (defScope s__law_bent) := ⟨rfl, rfl, rfl, by decide +kernel, rfl, by decide +kernel, by decide +kernel⟩
/-- all but the tables and L stay -/
def KX (L : Addr) (H H' : Hp) : Prop := ∀ b o, b ≠ L → H b = some o → (∀ ps, o ≠ .tbl ps) → H' b = some o
theorem KX.of {L : Addr} {H H' : Hp} (k : Keep L H H') : KX L H H' := fun b o nb e _ => k b o nb e
theorem KX.trans {L : Addr} {H H1 H2 : Hp} (a : KX L H H1) (b : KX L H1 H2) : KX L H H2 := fun c o n e nt => b c o n (a c o n e nt) nt
theorem Is.kx {H H' : Hp} {L : Addr} {x : V} {s : Sh} (h : Is H x s) (n : x ≠ .ref L) (k : KX L H H') : Is H' x s := by
  cases h with
  | non => exact .non
  | bl b => exact .bl b
  | int i => exact .int i
  | str z => exact .str z
  | lst e => exact .lst (k _ _ (fun c => n (by rw [c])) e fun ps z => by cases z)
  | tup e => exact .tup (k _ _ (fun c => n (by rw [c])) e fun ps z => by cases z)
  | dic e => exact .dic (k _ _ (fun c => n (by rw [c])) e fun ps z => by cases z)
/-- a value that orders nothing -/
def BentV (L : Addr) (H : Hp) (v : V) : Prop := v ≠ .ref L ∧ ∃ s, Is H v s ∧ ∀ xs, rowOf s = some xs → (∀ x ∈ xs, x ≠ .ref L ∧ Kn H x) ∧ ¬ ∃ ns, xs = iV ns ∧ Ord ns
theorem BentV.kx {L : Addr} {H H' : Hp} {v : V} (h : BentV L H v) (k : KX L H H') : BentV L H' v := by
  obtain ⟨n, s, h1, h2⟩ := h
  exact ⟨n, s, Is.kx h1 n k, fun xs e => ⟨fun x hx => ⟨((h2 xs e).1 x hx).1, let ⟨s2, h3⟩ := ((h2 xs e).1 x hx).2; ⟨s2, Is.kx h3 ((h2 xs e).1 x hx).1 k⟩⟩, (h2 xs e).2⟩⟩
theorem BentV.first {L : Addr} {H : Hp} {v : V} (h : BentV L H v) : BadFirst H v := by
  obtain ⟨n, s, h1, h2⟩ := h
  exact ⟨s, h1, fun xs e => .inr ⟨fun x hx => ((h2 xs e).1 x hx).2, (h2 xs e).2⟩⟩
theorem BentV.next {L : Addr} {H : Hp} {v : V} {n : Nat} (h : BentV L H v) : BadNext H n v := by
  obtain ⟨n, s, h1, h2⟩ := h
  exact ⟨s, h1, fun xs e => .inr ⟨fun x hx => ((h2 xs e).1 x hx).2, (h2 xs e).2⟩⟩
theorem cut_take (ns : List Nat) (k : Nat) (h : k ≤ ns.length) : cutV (iV ns) none (some (k : Int)) = iV (ns.take k) := by
  unfold cutV
  rw [HT.sIx_none, HT.sIx_nat, List.drop_zero, Nat.sub_zero, iV_len, Nat.min_eq_left h]
  unfold iV
  rw [List.map_take]
theorem cut_drop (ns : List Nat) (k : Nat) (h : k ≤ ns.length) : cutV (iV ns) (some (k : Int)) none = iV (ns.drop k) := by
  unfold cutV
  rw [HT.sIx_none, HT.sIx_nat, iV_len, Nat.min_eq_left h, List.take_of_length_le]
  · unfold iV
    rw [List.map_drop]
  · rw [List.length_drop, iV_len]
    exact Nat.le_refl _
theorem mem_iV {x : V} {ns : List Nat} : x ∈ iV ns ↔ ∃ n : Nat, n ∈ ns ∧ x = .int (n : Int) := by
  unfold iV
  rw [List.mem_map]
  exact ⟨fun ⟨n, h, e⟩ => ⟨n, h, e.symm⟩, fun ⟨n, h, e⟩ => ⟨n, h, e.symm⟩⟩
/-- no place of a row of n may hold it -/
def OddV (L : Addr) (H : Hp) (n : Nat) (v : V) : Prop := v ≠ .ref L ∧ Kn H v ∧ ∀ k : Nat, k < n → v ≠ .int (k : Int)
theorem OddV.kx {L : Addr} {H H' : Hp} {n : Nat} {v : V} (h : OddV L H n v) (k : KX L H H') : OddV L H' n v := ⟨h.1, let ⟨s, q⟩ := h.2.1; ⟨s, Is.kx q h.1 k⟩, h.2.2⟩
theorem iV_row {L : Addr} {H : Hp} {ns : List Nat} : ∀ x ∈ iV ns, x ≠ .ref L ∧ Kn H x := fun x hx => by
  obtain ⟨n, _, rfl⟩ := mem_iV.mp hx
  exact ⟨(fun z => by cases z), _, .int _⟩
theorem bent_odd {L : Addr} {H : Hp} {ns : List Nat} {k : Nat} {v : V} {p : Addr} (hk : k < ns.length) (o : OddV L H ns.length v) (pL : p ≠ L) (e : H p = some (.lst (iV (ns.take k) ++ [v] ++ iV (ns.drop (k + 1))))) : BentV L H (.ref p) := by
  refine ⟨(fun z => by cases z; exact pL rfl), _, .lst e, fun xs h => ?_⟩
  cases h
  refine ⟨fun x hx => ?_, fun ⟨ms, e1, om⟩ => ?_⟩
  · rcases List.mem_append.mp hx with hx | hx
    · rcases List.mem_append.mp hx with hx | hx
      · exact iV_row x hx
      · rw [List.mem_singleton.mp hx]; exact ⟨o.1, o.2.1⟩
    · exact iV_row x hx
  · have hv : v ∈ iV ms := by rw [← e1]; simp
    obtain ⟨m, hm, ev⟩ := mem_iV.mp hv
    have l := congrArg List.length e1
    rw [List.length_append, List.length_append, iV_len, iV_len, iV_len, List.length_take, List.length_drop] at l
    have l1 : ([v] : List V).length = 1 := rfl
    have := om.lt m hm
    exact o.2.2 m (by omega) ev
theorem bent_more {L : Addr} {H : Hp} {ns : List Nat} {m : Nat} {p : Addr} (hm : m ∈ ns) (pL : p ≠ L) (e : H p = some (.lst (iV ns ++ [.int (m : Int)]))) : BentV L H (.ref p) := by
  refine ⟨(fun z => by cases z; exact pL rfl), _, .lst e, fun xs h => ?_⟩
  cases h
  have e2 : iV ns ++ [.int (m : Int)] = iV (ns ++ [m]) := by
    unfold iV
    rw [List.map_append]
    rfl
  rw [e2]
  refine ⟨iV_row, fun ⟨ms, e1, om⟩ => ?_⟩
  have e3 := iV_inj e1
  subst e3
  exact (List.nodup_append.mp om.nd).2.2 m hm m (by simp) rfl
theorem bent_twice {L : Addr} {H : Hp} {ns : List Nat} {k m : Nat} {p : Addr} (hk : k < ns.length) (hm : m ∈ ns.take k ++ ns.drop (k + 1)) (pL : p ≠ L) (e : H p = some (.lst (iV (ns.take k) ++ [.int (m : Int)] ++ iV (ns.drop (k + 1))))) : BentV L H (.ref p) := by
  refine ⟨(fun z => by cases z; exact pL rfl), _, .lst e, fun xs h => ?_⟩
  cases h
  have e2 : iV (ns.take k) ++ [.int (m : Int)] ++ iV (ns.drop (k + 1)) = iV (ns.take k ++ [m] ++ ns.drop (k + 1)) := by
    unfold iV
    rw [List.map_append, List.map_append]
    rfl
  rw [e2]
  refine ⟨iV_row, fun ⟨ms, e1, om⟩ => ?_⟩
  have e3 := iV_inj e1
  subst e3
  obtain ⟨n1, n2, n3⟩ := List.nodup_append.mp om.nd
  obtain ⟨n4, n5, n6⟩ := List.nodup_append.mp n1
  rcases List.mem_append.mp hm with h | h
  · exact n6 m h m (by simp) rfl
  · exact n3 m (by simp) m h rfl
theorem bent_flat {L : Addr} {H : Hp} {v : V} {s : Sh} (h : Is H v s) (n : v ≠ .ref L) (e : rowOf s = none) : BentV L H v := ⟨n, s, h, fun xs z => by rw [e] at z; cases z⟩
theorem bent_nil {L : Addr} {H : Hp} {p : Addr} (pL : p ≠ L) (e : H p = some (.lst [])) : BentV L H (.ref p) := by
  refine ⟨(fun z => by cases z; exact pL rfl), _, .lst e, fun xs h => ?_⟩
  cases h
  refine ⟨(fun x hx => by cases hx), fun ⟨ms, e1, om⟩ => ?_⟩
  cases ms with
  | nil => exact om.ne rfl
  | cons m ms => cases e1
theorem bent_one {L : Addr} {H : Hp} {p : Addr} (pL : p ≠ L) (e : H p = some (.lst [.int 1])) : BentV L H (.ref p) := by
  refine ⟨(fun z => by cases z; exact pL rfl), _, .lst e, fun xs h => ?_⟩
  cases h
  refine ⟨fun x hx => by rw [List.mem_singleton.mp hx]; exact ⟨(fun z => by cases z), _, .int _⟩, fun ⟨ms, e1, om⟩ => ?_⟩
  have e2 : ([V.int 1] : List V) = iV [1] := rfl
  rw [e2] at e1
  have := iV_inj e1
  subst this
  exact absurd (om.lt 1 (by simp)) (by decide)
/-! ### slices put together -/
section
variable {K : PySem.W.Frag} {i j : Nat} {σ : L2.St} {H : Hp} {p : Addr} {ns : List Nat} {k : Nat} {R : VK}
theorem rd_front (hi : σ[i]? = some (some (.ref p))) (hj : σ[j]? = some (some (.int (k : Int)))) (hp : H p = some (.lst (iV ns))) (hk : k ≤ ns.length) (q : ∀ (a : Addr) (H' : Hp), Same H H' → H a = none → H' a = some (.lst (iV (ns.take k))) → R (.ref a) H') :
    tSl (rSlLN K) (tVar i) tNoPart (tPart (tVar j)) σ H R := by
  refine ⟨_, hi, _, hj, k, rfl, p, _, rfl, SqL.of hp, fun a H' na ea sa => q a H' sa na ?_⟩
  rw [ea, cut_take ns k hk]
theorem rd_back (hi : σ[i]? = some (some (.ref p))) (hj : σ[j]? = some (some (.int (k : Int)))) (hp : H p = some (.lst (iV ns))) (hk : k < ns.length) (q : ∀ (a : Addr) (H' : Hp), Same H H' → H a = none → H' a = some (.lst (iV (ns.drop (k + 1)))) → R (.ref a) H') :
    tSl (rSlLN K) (tVar i) (tPart (tOp (rI0 fun i j => V.int (i + j)) (tVar j) (tC (V.int 1)))) tNoPart σ H R := by
  refine ⟨_, hi, _, hj, _, _, rfl, rfl, ((k + 1 : Nat) : Int), rfl, p, _, rfl, SqL.of hp, fun a H' na ea sa => q a H' sa na ?_⟩
  rw [ea, cut_drop ns (k + 1) hk]
theorem rd_swap {te : TE} {v : V} (hi : σ[i]? = some (some (.ref p))) (hj : σ[j]? = some (some (.int (k : Int)))) (hp : H p = some (.lst (iV ns))) (hk : k < ns.length) (few : ns.length ≤ 1000) (hv : ∀ (H' : Hp) (R : VK), Same H H' → (∀ H'', Same H' H'' → R v H'') → te σ H' R)
    (q : ∀ (a : Addr) (H' : Hp), Same H H' → H a = none → H' a = some (.lst (iV (ns.take k) ++ [v] ++ iV (ns.drop (k + 1)))) → R (.ref a) H') :
    tOp rCatN (tOp rCatN (tSl (rSlLN K) (tVar i) tNoPart (tPart (tVar j))) (tLstN (tCons te tNil))) (tSl (rSlLN K) (tVar i) (tPart (tOp (rI0 fun i j => V.int (i + j)) (tVar j) (tC (V.int 1)))) tNoPart) σ H R := by
  have big : sizeLine = 16777216 := by decide
  have l1 : (ns.take k).length = k := by rw [List.length_take]; omega
  have l2 : (ns.drop (k + 1)).length = ns.length - (k + 1) := List.length_drop ..
  refine pOp (pOp (rd_front (K := K) hi hj hp (Nat.le_of_lt hk) fun a H1 s1 na ea => ?_))
  refine hv H1 _ s1 fun H2 s2 => ⟨by show 1 ≤ sizeLine; decide, fun b H3 nb eb s3 => ?_⟩
  refine ⟨a, b, _, _, rfl, rfl, s3 _ _ (s2 _ _ ea), eb, by rw [iV_len, l1]; show k + 1 ≤ _; omega, fun c H4 nc ec s4 => ?_⟩
  have s14 := (s1.trans s2).trans (s3.trans s4)
  refine rd_back (K := K) hi hj (s14 _ _ hp) hk fun d H5 s5 nd ed => ?_
  refine ⟨c, d, _, _, rfl, rfl, s5 _ _ ec, ed, ?_, fun e H6 ne ee s6 => q e H6 ((s14.trans s5).trans s6) ((s14.trans s5).free ne) ee⟩
  rw [List.length_append, iV_len, iV_len, l1, l2]
  show k + 1 + _ ≤ _
  omega
end
theorem last_of (ns : List Nat) (h : 0 < ns.length) : ns[ns.length - 1]? = some (ns[ns.length - 1]'(by omega)) := List.getElem?_eq_getElem (by omega)
/-- the item ahead of at, or the last one -/
theorem rd_ahead {K : PySem.W.Frag} {i j : Nat} {σ : L2.St} {H : Hp} {p : Addr} {ns : List Nat} {k : Nat} (hi : σ[i]? = some (some (.ref p))) (hj : σ[j]? = some (some (.int (k : Int)))) (hk : k < ns.length) (two : 1 < ns.length) :
    ∃ m : Nat, m ∈ ns.take k ++ ns.drop (k + 1) ∧ ∀ (H' : Hp) (R : VK), H' p = some (.lst (iV ns)) → (∀ H'', Same H' H'' → R (.int (m : Int)) H'') → tOp (rIxL K) (tVar i) (tOp (rI0 fun i j => V.int (i - j)) (tVar j) (tC (V.int 1))) σ H' R := by
  cases k with
  | zero =>
    refine ⟨ns[ns.length - 1], ?_, fun H' R hp q => ?_⟩
    · refine List.mem_append.mpr (.inr ?_)
      rw [List.mem_iff_getElem?]
      exact ⟨ns.length - 2, by rw [List.getElem?_drop, show 0 + 1 + (ns.length - 2) = ns.length - 1 from by omega]; exact last_of ns (by omega)⟩
    · refine ⟨_, hi, _, hj, _, _, rfl, rfl, p, _, _, _, rfl, rfl, SqL.of hp, ?_, q H' (Same.refl H')⟩
      show atI (iV ns) (-1) = _
      unfold atI ixN
      rw [iV_len, if_neg (by decide), if_pos (by omega)]
      show (iV ns)[((-1 : Int) + (ns.length : Nat)).toNat]? = _
      rw [show ((-1 : Int) + (ns.length : Nat)).toNat = ns.length - 1 from by omega]
      exact iV_get (last_of ns (by omega))
  | succ k =>
    refine ⟨ns[k], ?_, fun H' R hp q => ?_⟩
    · refine List.mem_append.mpr (.inl ?_)
      rw [List.mem_iff_getElem?]
      exact ⟨k, by rw [List.getElem?_take, if_pos (Nat.lt_succ_self k)]; exact List.getElem?_eq_getElem (by omega)⟩
    · refine ⟨_, hi, _, hj, _, _, rfl, rfl, p, _, _, _, rfl, rfl, SqL.of hp, ?_, q H' (Same.refl H')⟩
      show atI (iV ns) (((k + 1 : Nat) : Int) - 1) = _
      rw [show (((k + 1 : Nat) : Int) - 1) = ((k : Nat) : Int) from by omega]
      exact atI_nat (iV_get (List.getElem?_eq_getElem (by omega)))
def spBent : Sp := fun vs H Q _ => ∃ (L p : Addr) (ns : List Nat) (t : Nat) (l : Addr) (cs : List Int), vs = [.ref L, .ref p] ∧ H p = some (.lst (iV ns)) ∧ p ≠ L ∧ Ord ns ∧ ns.length ≤ 100 ∧ Lan H L l cs t ∧ t ≤ 900000 ∧
  ∀ (H' : Hp) (v : V), Keep L H H' → Lan H' L l cs (t + 3) → BentV L H' v → Q v H'
section
variable {P : Program} {w : World} {K : PySem.W.Frag} {mg : Str → Option Value} {base : Heap} {tk : Tok} {CS CB CF CT CM fE : Addr}
theorem ok_bent {f fS fO : Addr} {fd dS dO : FuncData} (F : Fun K "_law_bent" "_law_bent" s__law_bent f fd) (D__law_shelf : Df K mg "_law_shelf" s__law_shelf ["pantry", "many"] fS dS) (D__law_one_of : Df K mg "_law_one_of" s__law_one_of ["pantry", "some"] fO dO) (T : Txt K mg tk CS CB CF CT CM fE) :
    FnOk P w K mg base CX0 3 f fd ["pantry", "row"] spBent := by
  have G__law_shelf : FnOk P w K mg base CX0 1 fS dS ["pantry", "many"] spFlick := ok_draw D__law_shelf.F T
  have G__law_one_of : FnOk P w K mg base CX0 2 fO dO ["pantry", "some"] spPick := ok_pick D__law_one_of.F D__law_shelf T
  refine F.ok sc__law_bent (fun vs H Q E h => ?_) (fun cdv A outer s H vs Q E hr h => ?_)
  · obtain ⟨L, p, ns, t, l, cs, rfl, _⟩ := h
    rfl
  · obtain ⟨L, p, ns, t, l, cs, rfl, hp, pL, o, few, lan, ht, q⟩ := h
    have big : sizeLine = 16777216 := by decide
    have npos := ord_len o
    refine ⟨_, (pss_cons (Nv.ps_parN (i := 2) (j := 3) (by rfl) sc__law_bent.nd rfl rfl (by decide) rfl rfl (pa_cons (pe_call G__law_shelf (hr.mono (by decide)) (by rfl) D__law_shelf.m D__law_shelf.F.kp D__law_shelf.b .nil pass0 (pa_cons (pv 0) (pa_cons (pe_callB (Nv.cr_lenSeq (K := K) rfl) (by rfl) T.n_len (by decide +kernel) (pa_cons (pv 1) pa_nil)) pa_nil))) (pa_cons (pe_callB (Nv.cr_lenSeq (K := K) rfl) (by rfl) T.n_len (by decide +kernel) (pa_cons (pv 1) pa_nil)) pa_nil)) (by rfl))
(pss_cons (Nv.ps_setN (i := 4) sc__law_bent.nd rfl (by first | exact Or.inl rfl | exact Or.inr rfl) (pe_call G__law_one_of (hr.mono (by decide)) (by rfl) D__law_one_of.m D__law_one_of.F.kp D__law_one_of.b .nil pass0 (pa_cons (pv 0) (pa_cons (Nv.pe_lstN (pa_cons (pv 3) (pa_cons (pe_un un_neg pe_int) (pa_cons pe_non (pa_cons pe_bl (pa_cons pe_str (pa_cons (Nv.pe_lstN (pa_cons pe_int pa_nil)) (pa_cons pe_int pa_nil)))))))) pa_nil))))
(pss_cons (Nv.ps_setN (i := 5) sc__law_bent.nd rfl (by first | exact Or.inl rfl | exact Or.inr rfl) (pe_ifExp (pt_cmpR op_gt (pv 3) pe_int (nomark _)) (pe_op Nv.op_catN (pe_op Nv.op_catN (pe_slice Nv.sl_listN (pv 1) po_none (po_some (pv 2))) (Nv.pe_lstN (pa_cons (pe_ix (Nv.ix_listK (K := K) rfl) (pv 1) (pe_op op_sub (pv 2) pe_int) (fun _ _ => rfl)) pa_nil))) (pe_slice Nv.sl_listN (pv 1) (po_some (pe_op op_add (pv 2) pe_int)) po_none)) (Nv.pe_lstN (pa_cons pe_int pa_nil))))
(pss_one (ps_ret (pe_call G__law_one_of (hr.mono (by decide)) (by rfl) D__law_one_of.m D__law_one_of.F.kp D__law_one_of.b .nil pass0 (pa_cons (pv 0) (pa_cons (Nv.pe_lstN (pa_cons (pe_op Nv.op_catN (pe_op Nv.op_catN (pe_slice Nv.sl_listN (pv 1) po_none (po_some (pv 2))) (Nv.pe_lstN (pa_cons (pv 4) pa_nil))) (pe_slice Nv.sl_listN (pv 1) (po_some (pe_op op_add (pv 2) pe_int)) po_none)) (pa_cons (pe_op Nv.op_catN (pv 1) (Nv.pe_lstN (pa_cons (pe_ix (Nv.ix_listK (K := K) rfl) (pv 1) (pv 2) (fun _ _ => rfl)) pa_nil))) (pa_cons pe_non (pa_cons pe_int (pa_cons pe_str (pa_cons Nv.pe_dnewN (pa_cons (Nv.pe_lstN pa_nil) (pa_cons (pv 5) pa_nil))))))))) pa_nil)))))))), ?_⟩
    -- at, many
    refine ⟨_, rfl, _, rfl, p, _, rfl, .inl (SqL.of hp), L, _, t, l, cs, rfl, by rw [iV_len]; omega, log_small (by rw [iV_len]; omega) (by rw [iV_len]; omega), lan, by omega, fun H1 r k1 lan1 r0 r1 => ?_⟩
    rw [iV_len] at r1
    obtain ⟨k, rfl⟩ : ∃ k : Nat, r = (k : Int) := ⟨r.toNat, by omega⟩
    have hk : k < ns.length := by omega
    have hp1 := k1 _ _ pL hp
    refine ⟨_, rfl, p, _, rfl, .inl (SqL.of hp1), ⟨_, _, rfl, fun σ1 c1 => ?_⟩⟩
    obtain rfl : σ1 = [some (.ref L), some (.ref p), some (.int (k : Int)), some (.int (((iV ns).length : Nat) : Int)), none, none] := c1
    rw [iV_len]
    -- odd
    refine ⟨_, rfl, _, rfl, 1, rfl, by show 1 ≤ sizeLine; decide, fun z0 H2 n2 e2 s2 => ⟨by show 7 ≤ sizeLine; decide, fun m1 H3 n3 e3 s3 => ?_⟩⟩
    have lan3 := Lan.same (Lan.same lan1 s2) s3
    obtain ⟨zL, _⟩ := Lan.apart lan1 n2
    obtain ⟨mL, _⟩ := Lan.apart (Lan.same lan1 s2) n3
    refine ⟨L, m1, _, t + 1, l, cs, rfl, .inl e3, mL, by show 0 < 7; decide, by show 7 ≤ 100000; decide, lan3, by omega, fun H4 odd hodd k4 lan4 => fun σ2 c2 => ?_⟩
    obtain rfl : σ2 = [some (.ref L), some (.ref p), some (.int (k : Int)), some (.int ((ns.length : Nat) : Int)), some odd, none] := c2
    have ez4 := k4 _ _ zL (s3 _ _ e2)
    have oddv : OddV L H4 ns.length odd := by
      simp only [List.mem_cons, List.not_mem_nil, or_false] at hodd
      rcases hodd with h | h | h | h | h | h | h <;> subst h
      · exact ⟨(fun z => by cases z), ⟨_, .int _⟩, fun j hj z => by injection z with z; omega⟩
      · exact ⟨(fun z => by cases z), ⟨_, .int _⟩, fun j hj z => by injection z with z; omega⟩
      · exact ⟨(fun z => by cases z), ⟨_, .non⟩, fun j hj z => by cases z⟩
      · exact ⟨(fun z => by cases z), ⟨_, .bl _⟩, fun j hj z => by cases z⟩
      · exact ⟨(fun z => by cases z), ⟨_, .str _⟩, fun j hj z => by cases z⟩
      · exact ⟨(fun z => by cases z; exact zL rfl), ⟨_, .lst ez4⟩, fun j hj z => by cases z⟩
      · exact ⟨(fun z => by cases z), ⟨_, .int _⟩, fun j hj z => by injection z with z; omega⟩
    have k04 : Keep L H H4 := (k1.trans (Same.keep (s2.trans s3))).trans k4
    have hp4 := k04 _ _ pL hp
    have hk4 : ns[k]? = some ns[k] := List.getElem?_eq_getElem hk
    refine nxI (pSeq ?_)
    -- twice
    have fin : ∀ (b : Addr) (H5 : Hp), Keep L H H5 → Lan H5 L l cs (t + 2) → BentV L H5 (.ref b) → OddV L H5 ns.length odd → tRet (tCall spPick [] E0 (tCons (tVar 0) (tCons (tLstN (tCons (tOp rCatN (tOp rCatN (tSl (rSlLN K) (tVar 1) tNoPart (tPart (tVar 2))) (tLstN (tCons (tVar 4) tNil))) (tSl (rSlLN K) (tVar 1) (tPart (tOp (rI0 fun i j => V.int (i + j)) (tVar 2) (tC (V.int 1)))) tNoPart))
        (tCons (tOp rCatN (tVar 1) (tLstN (tCons (tOp (rIxL K) (tVar 1) (tVar 2)) tNil))) (tCons (tC V.non) (tCons (tC (V.int 5)) (tCons (tC (V.str "0")) (tCons tDNewN (tCons (tLstN tNil) (tCons (tVar 5) tNil))))))))) tNil)))
        { nx := fun x H' => Q V.non H', rt := Q } [some (.ref L), some (.ref p), some (.int (k : Int)), some (.int ((ns.length : Nat) : Int)), some odd, some (.ref b)] H5 := by
      intro b H5 k05 lan5 bv ov
      have hp5 := k05 _ _ pL hp
      refine ⟨_, rfl, rd_swap (K := K) rfl rfl hp5 hk (by omega) (fun H' R _ kk => ⟨_, rfl, kk H' (Same.refl H')⟩) fun a1 H6 s6 n6 e6 => ?_⟩
      refine ⟨_, rfl, ⟨_, rfl, _, rfl, p, _, _, _, rfl, rfl, SqL.of (s6 _ _ hp5), atI_nat (iV_get hk4), by show 1 ≤ sizeLine; decide, fun a2 H7 n7 e7 s7 => ?_⟩⟩
      refine ⟨p, a2, _, _, rfl, rfl, s7 _ _ (s6 _ _ hp5), e7, by rw [iV_len]; show _ + 1 ≤ _; omega, fun a3 H8 n8 e8 s8 => ?_⟩
      refine fun a4 H9 n9 e9 s9 => ⟨by show 0 ≤ sizeLine; decide, fun a5 H10 n10 e10 s10 => ⟨_, rfl, by show 8 ≤ sizeLine; decide, fun a6 H11 n11 e11 s11 => ?_⟩⟩
      have s610 : Same H5 H10 := ((s6.trans s7).trans (s8.trans s9)).trans s10
      have lan11 := Lan.same lan5 (s610.trans s11)
      have a1L := (Lan.apart lan5 n6).1
      have a3L := (Lan.apart (Lan.same lan5 (s6.trans s7)) n8).1
      have a4L := (Lan.apart (Lan.same lan5 ((s6.trans s7).trans s8)) n9).1
      have a5L := (Lan.apart (Lan.same lan5 ((s6.trans s7).trans (s8.trans s9))) n10).1
      have a6L := (Lan.apart (Lan.same lan5 s610) n11).1
      refine ⟨L, a6, _, t + 2, l, cs, rfl, .inl e11, a6L, by show 0 < 8; decide, by show 8 ≤ 100000; decide, lan11, by omega, fun H12 v hv k12 lan12 => q H12 v ?_ lan12 ?_⟩
      · exact (k05.trans (Same.keep (s610.trans s11))).trans k12
      · have f1 := k12 _ _ a1L (s11 _ _ (s10 _ _ (s9 _ _ (s8 _ _ (s7 _ _ e6)))))
        have f3 := k12 _ _ a3L (s11 _ _ (s10 _ _ (s9 _ _ e8)))
        have f4 := k12 _ _ a4L (s11 _ _ (s10 _ _ e9))
        have f5 := k12 _ _ a5L (s11 _ _ e10)
        have kx : KX L H5 H12 := (KX.of (Same.keep (s610.trans s11))).trans (.of k12)
        simp only [List.mem_cons, List.not_mem_nil, or_false] at hv
        rcases hv with h | h | h | h | h | h | h | h <;> subst h
        · exact bent_odd hk (ov.kx kx) a1L f1
        · exact bent_more (List.getElem_mem hk) a3L f3
        · exact bent_flat .non (fun z => by cases z) rfl
        · exact bent_flat (.int _) (fun z => by cases z) rfl
        · exact bent_flat (.str _) (fun z => by cases z) rfl
        · exact bent_flat (.dic f4) (fun z => by cases z; exact a4L rfl) rfl
        · exact bent_nil a5L f5
        · exact bv.kx kx
    refine ⟨_, rfl, _, 1, rfl, rfl, _, rfl, ifb (fun z => ?_) (fun z => ?_)⟩
    · have two : 1 < ns.length := by
        have := of_decide_eq_true z
        omega
      obtain ⟨m, hm, rd⟩ := rd_ahead (K := K) (i := 1) (j := 2) (σ := [some (.ref L), some (.ref p), some (.int (k : Int)), some (.int ((ns.length : Nat) : Int)), some odd, none]) (H := H4) (p := p) rfl rfl hk two
      refine rd_swap (K := K) rfl rfl hp4 hk (by omega) (fun H' R s' kk => rd H' R (s' _ _ hp4) kk) fun a H5 s5 n5 e5 => fun σ5 c5 => ?_
      subst c5
      have aL := (Lan.apart lan4 n5).1
      exact fin a H5 (k04.trans (Same.keep s5)) (Lan.same lan4 s5) (bent_twice hk hm aL e5) (oddv.kx (.of (Same.keep s5)))
    · refine ⟨by show 1 ≤ sizeLine; decide, fun a H5 n5 e5 s5 => fun σ5 c5 => ?_⟩
      subst c5
      have aL := (Lan.apart lan4 n5).1
      exact fin a H5 (k04.trans (Same.keep s5)) (Lan.same lan4 s5) (bent_one aL e5) (oddv.kx (.of (Same.keep s5)))
end
end K17

set_option maxRecDepth 100000
set_option maxHeartbeats 8000000
namespace K17
open PySem PySem.Spec PyProof.Rows L2 Nv LamX
/-! ### the lambdas' parameters -/
theorem lamB0 {params : Arguments} {body : Expr} {scope : Scope} {i : Int} (hd : params.defaults = []) (h : ∀ (q : Str) (cl : List (Str × Addr)) (doc pm cv ctv : Value), bindArgs (PySem.W.kdv_fn "<lambda>" q params (.expr body) scope cl .none doc pm cv ctv) ⟨[], []⟩ = pure []) : LamBinds params body scope i := fun q cl dV doc pm cv ctv s hdv => by
  rcases hdv with ⟨_, rfl⟩ | ⟨z, _⟩
  · exact ⟨[], .of_eq (h q cl doc pm cv ctv), fun y hy => by cases hy⟩
  · exact absurd hd z
theorem lamB1 {params : Arguments} {body : Expr} {scope : Scope} {i : Int} {a : Str} (hd : params.defaults ≠ []) (hl : scope.names.lookup a = some .local)
    (h : ∀ (q : Str) (cl : List (Str × Addr)) (t : Addr) (doc pm cv ctv v : Value), ∃ k, bindArgs (PySem.W.kdv_fn "<lambda>" q params (.expr body) scope cl (.ref t) doc pm cv ctv) ⟨[], []⟩ = seqItems? (.ref t) >>= k ∧ k (some #[v]) = pure [(a, v)]) : LamBinds params body scope i := fun q cl dV doc pm cv ctv s hdv => by
  rcases hdv with ⟨z, _⟩ | ⟨_, t, tk, rfl, g⟩
  · exact absurd z hd
  · obtain ⟨k, e1, e2⟩ := h q cl t doc pm cv ctv (.int i tk)
    refine ⟨[(a, .int i tk)], BindsTo.of_looks fun M => ?_, fun y hy => ?_⟩
    · rw [e1]
      intro A Q E s' kp q
      refine wpAny_bind (wpAny_seqItems (kp _ _ g) rfl ?_)
      show wpAny M A (k (some #[.int i tk])) Q E s'
      rw [e2]
      exact wpAny_pure q
    · rw [List.mem_singleton.mp hy]
      exact hl
section
variable {X : Cx} {tk : Tok} {CS CB CF CT CM fE fB fF : Addr} {dB dF : FuncData}
theorem heard17 {T : List (Addr × Str)} {g c P : Addr} {dH : FuncData} {k : Nat} {params : Arguments} {body : Expr} {scope : Scope} {t : XK → TE} {p lpos pos : Pos} {i : Int} (D : Df X.K X.mg "_law_heard" s__law_heard ["ask"] g dH) (hg : Gl X "_law_heard") (Tx : Txt X.K X.mg tk CS CB CF CT CM fE)
    (E_BadSheet : ErrC X.K X.mg "BadSheet" CB fB dB "BadSheet.__init__" s_BadSheet_init ["self", "part"]) (E_Misfit : ErrC X.K X.mg "Misfit" CF fF dF "Misfit.__init__" s_Misfit_init ["self", "part"])
    (TB : TabB X.base X.mg c P) (hcode : X.env.code = .ref c) (hmT : (P, X.env.qual ++ "<lambda>") ∈ T) (hu : ∀ p ∈ T, p.1 = P → p.2 = X.env.qual ++ "<lambda>") (hr : Room (k + 2) X.A) (L : LamD X.N X.env.scope scope)
    (hd0 : params.defaults = [] ∨ ∃ j p0, params.defaults = [.Constant (.int i) j p0]) (hk0 : params.kw_defaults = []) (B : LamBinds params body scope i)
    (hbody : ∀ (A : Around) (outer : List Env) (s : Shared) (H : Hp) (E : XK) (f c' : Addr), Room k (A.deeper (lamEnv X scope s.heap.objs.size f c')) → PE (lamCx X A outer s H E scope f c') body (t E)) :
    PE X (.Call (.Name "_law_heard" p) [.Lambda params body scope lpos] [] pos) (tLam T (TTh CB CF) t) := by
  obtain ⟨oc, od, kV, doc, pm, an, cdv, ct, osl, rfl, lk, hcg⟩ := D.F.ex
  exact pe_heard (Ng := ["ask", "caught", "error", "kinds", "words", "word", "is_so"]) hg D.m D.F.kp lk hcg D.b sc__law_heard rfl (.inl rfl) (heard_gives rfl rfl Tx E_BadSheet E_Misfit) TB hcode hmT hu hr L hd0 hk0 B hbody
end
theorem Ends17.same {H H' : Hp} {x y z : V} {o : Option (Bool × Str)} {r u c : List Nat} (h : Ends17 H x y z o r u c) (e : Same H H') : Ends17 H' x y z o r u c := by
  cases h with
  | right h => exact .right (h.same e)
  | up h o l h2 => exact .up (h.same e) o l (h2.same e)
  | corners h o l h2 o2 l2 h3 => exact .corners (h.same e) o l (h2.same e) o2 l2 (h3.same e)
  | apart h o l h2 o2 l2 h3 l3 b no => exact .apart (h.same e) o l (h2.same e) o2 l2 (h3.same e) l3 b no
  | free h o l h2 o2 l2 h3 l3 b ya no => exact .free (h.same e) o l (h2.same e) o2 l2 (h3.same e) l3 b ya no
  | ok h o l h2 o2 l2 h3 l3 b ya yc => exact .ok (h.same e) o l (h2.same e) o2 l2 (h3.same e) l3 b ya yc
theorem made_same {H : Hp} {x dx C : Addr} (nx : H x = none) (nd : H dx = none) (ne : dx ≠ x) : Same H (upd (upd H dx (.own x)) x (.ins C dx [])) := fun b o e => by
  rw [upd_ne (ne_of_none e nx), upd_ne (ne_of_none e nd)]
  exact e
theorem ExtN.same {H H1 H2 : Hp} (a : ExtN H H1) (b : Same H1 H2) : ExtN H H2 := fun c o e n => b _ _ (a c o e n)
/-- _law_heard(lambda: Sheet(..)) -/
theorem hear {CS CB CF : Addr} {T : List (Addr × Str)} {σ : L2.St} {H : Hp} {Q : VK} {args : TA} {o : Option (Bool × Str)} {r u c : List Nat} (tb : Tabs T H)
    (ha : ∀ (H1 : Hp) (R : List V → Hp → Prop), ExtN H H1 → (∀ (H2 : Hp) (x y z : V), Same H1 H2 → Ends17 H2 x y z o r u c → R [x, y, z] H2) → args σ H1 R)
    (q : match o with
      | some (b, part) => ∀ (p : Addr) (H' : Hp), ExtN H H' → Tabs T H' → H' p = some (.tup [.str (wordOf b), .str part]) → Q (.ref p) H'
      | none => ∀ H' : Hp, ExtN H H' → Tabs T H' → Q .non H') : tLam T (TTh CB CF) (fun E => tMake CS (spInit17 CS CB CF) [] E args) σ H Q := by
  refine ⟨tb, fun H1 e1 t1 Q' hq => ha H1 _ e1 fun H2 x y z s2 en => ?_⟩
  intro p dx np nd ne
  have s3 : Same H2 (upd (upd H2 dx (.own p)) p (.ins CS dx [])) := made_same np nd ne
  refine ⟨p, dx, x, y, z, o, r, u, c, rfl, upd_same, en.same s3, ?_⟩
  cases o with
  | some bp =>
    obtain ⟨b, part⟩ := bp
    refine fun d H4 s4 e4 => ⟨b, part, d, rfl, rfl, e4, fun p5 H5 s5 n5 e5 => q p5 H5 ?_ ?_ e5⟩
    · exact ExtN.same e1 (s2.trans (s3.trans (s4.trans s5)))
    · exact t1.ext (s2.trans (s3.trans (s4.trans s5)))
  | none =>
    intro H4 k4 _
    have s4 : Same H2 H4 := fun b ob e => k4 b ob (ne_of_none e np) (s3 _ _ e)
    exact ⟨rfl, hq _ H4 fun H5 s5 => q H5 (ExtN.same e1 (s2.trans (s4.trans s5))) (t1.ext (s2.trans (s4.trans s5)))⟩
end K17

set_option maxRecDepth 100000
set_option maxHeartbeats 2000000
namespace K17
open PySem PySem.Spec PyProof.Rows L2 Nv LamX
abbrev s__law_rows_right : Stmt := topS 34
theorem sc__law_rows_right : FnScope ["pantry", "right", "up", "corners", "bad", "worse", "at", "odd", "none", "heard"] ["pantry", "right", "up", "corners"] (defScope s__law_rows_right) := ⟨rfl, rfl, rfl, by decide +kernel, rfl, by decide +kernel, by decide +kernel⟩
/-- as Fun.ok, the def's code object told -/
theorem okC {P : Program} {w : World} {K : PySem.W.Frag} {mg : Str → Option Value} {base : Heap} {x qual : Str} {st : Stmt} {f c : Addr} {fd : FuncData} {N ps : List Str} {k : Nat} {sp : Sp} (F : Fun K x qual st f fd) (hc : fd.code = .ref c) (S : FnScope N ps (defScope st)) (len : ∀ vs H Q E, sp vs H Q E → vs.length = ps.length)
    (hbody : ∀ (A : Around) (outer : List Env) (s : Shared) (H : Hp) (vs : List V) (Q : VK) (E : XK), Room k (A.deeper (envOfC qual (defScope st) s.heap.objs.size f (.ref c))) → sp vs H Q E →
      ∃ t, PSs (cxOf CX0 P w K mg base N qual (defScope st) f (.ref c) A outer s H E).nox (defBody st) t ∧ t { nx := fun _ H' => Q .non H', rt := Q } (start N vs) H) : FnOk P w K mg base CX0 (k + 1) f fd ps sp := by
  obtain ⟨oc, od, kV, doc, pm, an, cdv, ct, osl, rfl, lk, hcd⟩ := F.ex
  have hc : cdv = .ref c := hc
  subst hc
  exact fn_of lk hcd S len fun A outer s H vs Q E hr hsp => by
    obtain ⟨t, h, q⟩ := hbody A outer s H vs Q E hr hsp
    exact ⟨t, h.nox, q⟩
theorem Lan.ext {H H' : Hp} {L l : Addr} {cs : List Int} {t : Nat} (a : Lan H L l cs t) (e : ExtN H H') : Lan H' L l cs t := by
  obtain ⟨u, r, h1, h2, h3⟩ := a.ex
  exact ⟨u, r, e _ _ h1 (fun ps z => by cases z), e _ _ h2 (fun ps z => by cases z), h3⟩
theorem KX.ext {L : Addr} {H H1 H2 : Hp} (a : KX L H H1) (b : ExtN H1 H2) : KX L H H2 := fun c o n e nt => b _ _ (a c o n e nt) nt
def WorseV (L : Addr) (H : Hp) (n : Nat) (v : V) : Prop := v ≠ .ref L ∧ ∃ s, Is H v s ∧ ∀ xs, rowOf s = some xs → xs.length ≠ n ∨ ((∀ x ∈ xs, x ≠ .ref L ∧ Kn H x) ∧ ¬ ∃ ns, xs = iV ns ∧ Ord ns)
theorem WorseV.kx {L : Addr} {H H' : Hp} {n : Nat} {v : V} (h : WorseV L H n v) (k : KX L H H') : WorseV L H' n v := by
  obtain ⟨nv, s, h1, h2⟩ := h
  exact ⟨nv, s, Is.kx h1 nv k, fun xs e => (h2 xs e).imp id fun z => ⟨fun x hx => ⟨(z.1 x hx).1, let ⟨s2, h3⟩ := (z.1 x hx).2; ⟨s2, Is.kx h3 (z.1 x hx).1 k⟩⟩, z.2⟩⟩
theorem WorseV.bad {L : Addr} {H : Hp} {n : Nat} {v : V} (h : WorseV L H n v) : BadNext H n v := by
  obtain ⟨nv, s, h1, h2⟩ := h
  exact ⟨s, h1, fun xs e => (h2 xs e).imp id fun z => ⟨fun x hx => (z.1 x hx).2, z.2⟩⟩
theorem BentV.worse {L : Addr} {H : Hp} {n : Nat} {v : V} (h : BentV L H v) : WorseV L H n v := ⟨h.1, let ⟨s, h1, h2⟩ := h.2; ⟨s, h1, fun xs e => .inr (h2 xs e)⟩⟩
theorem worse_len {L : Addr} {H : Hp} {n : Nat} {p : Addr} {xs : List V} (pL : p ≠ L) (e : H p = some (.lst xs)) (h : xs.length ≠ n) : WorseV L H n (.ref p) := ⟨(fun z => by cases z; exact pL rfl), _, .lst e, fun ys z => by cases z; exact .inl h⟩
def CornV (L : Addr) (H : Hp) (n : Nat) (v : V) : Prop := v ≠ .ref L ∧ ∃ s, Is H v s ∧ ∀ xs, rowOf s = some xs → xs.length ≠ n ∨ ((∀ x ∈ xs, x ≠ .ref L ∧ Kn H x) ∧ xs.all (fun v => wIn v (some 0) (some 1)) = false)
theorem CornV.kx {L : Addr} {H H' : Hp} {n : Nat} {v : V} (h : CornV L H n v) (k : KX L H H') : CornV L H' n v := by
  obtain ⟨nv, s, h1, h2⟩ := h
  exact ⟨nv, s, Is.kx h1 nv k, fun xs e => (h2 xs e).imp id fun z => ⟨fun x hx => ⟨(z.1 x hx).1, let ⟨s2, h3⟩ := (z.1 x hx).2; ⟨s2, Is.kx h3 (z.1 x hx).1 k⟩⟩, z.2⟩⟩
theorem CornV.bad {L : Addr} {H : Hp} {n : Nat} {v : V} (h : CornV L H n v) : BadCorn H n v := by
  obtain ⟨nv, s, h1, h2⟩ := h
  exact ⟨s, h1, fun xs e => (h2 xs e).imp id fun z => ⟨fun x hx => (z.1 x hx).2, z.2⟩⟩
theorem corn_flat {L : Addr} {H : Hp} {n : Nat} {v : V} {s : Sh} (h : Is H v s) (nv : v ≠ .ref L) (e : rowOf s = none) : CornV L H n v := ⟨nv, s, h, fun xs z => by rw [e] at z; cases z⟩
theorem corn_len {L : Addr} {H : Hp} {n : Nat} {p : Addr} {xs : List V} (pL : p ≠ L) (e : H p = some (.lst xs)) (h : xs.length ≠ n) : CornV L H n (.ref p) := ⟨(fun z => by cases z; exact pL rfl), _, .lst e, fun ys z => by cases z; exact .inl h⟩
def OddC (L : Addr) (H : Hp) (v : V) : Prop := v ≠ .ref L ∧ Kn H v ∧ wIn v (some 0) (some 1) = false
theorem OddC.kx {L : Addr} {H H' : Hp} {v : V} (h : OddC L H v) (k : KX L H H') : OddC L H' v := ⟨h.1, let ⟨s, q⟩ := h.2.1; ⟨s, Is.kx q h.1 k⟩, h.2.2⟩
theorem corn_odd {L : Addr} {H : Hp} {ns : List Nat} {k : Nat} {v : V} {p : Addr} {n : Nat} (o : OddC L H v) (pL : p ≠ L) (e : H p = some (.lst (iV (ns.take k) ++ [v] ++ iV (ns.drop (k + 1))))) : CornV L H n (.ref p) := by
  refine ⟨(fun z => by cases z; exact pL rfl), _, .lst e, fun xs h => .inr ?_⟩
  cases h
  refine ⟨fun x hx => ?_, ?_⟩
  · rcases List.mem_append.mp hx with hx | hx
    · rcases List.mem_append.mp hx with hx | hx
      · exact iV_row x hx
      · rw [List.mem_singleton.mp hx]; exact ⟨o.1, o.2.1⟩
    · exact iV_row x hx
  · rw [List.all_append, List.all_append]
    simp [o.2.2]
theorem good_lst {H : Hp} {p : Addr} {ns : List Nat} (e : H p = some (.lst (iV ns))) : GoodRow H (.ref p) ns := ⟨_, .lst e, rfl⟩
/-- what the heard ones are -/
def dHeard : PyData := .list [.tuple [.str "sheet", .str "right"], .tuple [.str "sheet", .str "up"], .tuple [.str "sheet", .str "corners"]]
theorem dp_heard {K : PySem.W.Frag} {H : Hp} {h p1 p2 p3 : Addr} (e : H h = some (.lst [.ref p1, .ref p2, .ref p3])) (e1 : H p1 = some (.tup [.str "sheet", .str "right"])) (e2 : H p2 = some (.tup [.str "sheet", .str "up"])) (e3 : H p3 = some (.tup [.str "sheet", .str "corners"])) : Dp K H (.ref h) dHeard :=
  .lst (SqL.of e) (.cons (.tup (SqT.of e1) (.cons (.str _) (.cons (.str _) .nil))) (.cons (.tup (SqT.of e2) (.cons (.str _) (.cons (.str _) .nil))) (.cons (.tup (SqT.of e3) (.cons (.str _) (.cons (.str _) .nil))) .nil)))
theorem pLst3 {t1 t2 t3 : TE} {σ : L2.St} {H : Hp} {Q : VK} (h : t1 σ H fun x H1 => t2 σ H1 fun y H2 => t3 σ H2 fun z H3 => 3 ≤ sizeLine ∧ New H3 (.lst [x, y, z]) Q) : tLstN (tCons t1 (tCons t2 (tCons t3 tNil))) σ H Q := h
theorem ev_heard : PyData.eqv dHeard dHeard = true := by decide +kernel
theorem sh_heard : SeqAt.shaped dHeard = true := by decide +kernel
def spRows (TT : List (Addr × Str)) : Sp := fun vs H Q _ => ∃ (L a b d : Addr) (r u co : List Nat) (t : Nat) (l : Addr) (cs : List Int), vs = [.ref L, .ref a, .ref b, .ref d] ∧ H a = some (.lst (iV r)) ∧ H b = some (.lst (iV u)) ∧ H d = some (.lst (iV co)) ∧ a ≠ L ∧ b ≠ L ∧ d ≠ L ∧ Ord r ∧ Ord u ∧ u.length = r.length ∧ co.length = r.length ∧ r.length ≤ 100 ∧ Lan H L l cs t ∧ t ≤ 800000 ∧ Tabs TT H ∧
  ∀ H' : Hp, KX L H H' → Lan H' L l cs (t + 20) → Tabs TT H' → Q (.bl true) H'
section
variable {P : Program} {w : World} {K : PySem.W.Frag} {mg : Str → Option Value} {base : Heap} {tk : Tok} {CS CB CF CT CM fE : Addr}
theorem ok_rows_right {f fS fO fN fI fH fB fF c PT : Addr} {fd dS dO dN dI dH dB dF : FuncData} {TT : List (Addr × Str)} (F : Fun K "_law_rows_right" "_law_rows_right" s__law_rows_right f fd) (D__law_shelf : Df K mg "_law_shelf" s__law_shelf ["pantry", "many"] fS dS) (D__law_one_of : Df K mg "_law_one_of" s__law_one_of ["pantry", "some"] fO dO)
    (D__law_bent : Df K mg "_law_bent" s__law_bent ["pantry", "row"] fN dN) (D__law_heard : Df K mg "_law_heard" s__law_heard ["ask"] fH dH) (M_Sheet : Mk K CS fI) (G_Sheet_init : FnOk P w K mg base (L2.CX P w) 4 fI dI ["self", "right", "up", "corners"] (spInit17 CS CB CF)) (B_Sheet_init : Binds K dI ["self", "right", "up", "corners"] [])
    (E_BadSheet : ErrC K mg "BadSheet" CB fB dB "BadSheet.__init__" s_BadSheet_init ["self", "part"]) (E_Misfit : ErrC K mg "Misfit" CF fF dF "Misfit.__init__" s_Misfit_init ["self", "part"]) (T : Txt K mg tk CS CB CF CT CM fE) (hc : fd.code = .ref c) (TB : TabB base mg c PT)
    (hmT : (PT, (("_law_rows_right" : Str) ++ ".<locals>.") ++ "<lambda>") ∈ TT) (hu : ∀ p ∈ TT, p.1 = PT → p.2 = (("_law_rows_right" : Str) ++ ".<locals>.") ++ "<lambda>") : FnOk P w K mg base CX0 8 f fd ["pantry", "right", "up", "corners"] (spRows TT) := by
  have G__law_shelf : FnOk P w K mg base CX0 1 fS dS ["pantry", "many"] spFlick := ok_draw D__law_shelf.F T
  have G__law_one_of : FnOk P w K mg base CX0 2 fO dO ["pantry", "some"] spPick := ok_pick D__law_one_of.F D__law_shelf T
  have G__law_bent : FnOk P w K mg base CX0 3 fN dN ["pantry", "row"] spBent := ok_bent D__law_bent.F D__law_shelf D__law_one_of T
  refine okC F hc sc__law_rows_right (fun vs H Q E h => ?_) (fun A outer s H vs Q E hr h => ?_)
  · obtain ⟨L, a, b, d, r, u, co, t, l, cs, rfl, _⟩ := h
    rfl
  · obtain ⟨L, a, b, d, r, u, co, t, l, cs, rfl, ha, hb, hd, aL, bL, dL, or_, ou, lu, lc, few, lan, ht, tb, q⟩ := h
    have big : sizeLine = 16777216 := by decide
    have npos := ord_len or_
    refine ⟨_, (pss_cons (ps_asg (Nv.pe_tupN (pa_cons (pe_call G__law_bent (hr.mono (by decide)) (by rfl) D__law_bent.m D__law_bent.F.kp D__law_bent.b .nil pass0 (pa_cons (pv 0) (pa_cons (pv 1) pa_nil))) (pa_cons (pe_call G__law_one_of (hr.mono (by decide)) (by rfl) D__law_one_of.m D__law_one_of.F.kp D__law_one_of.b .nil pass0 (pa_cons (pv 0) (pa_cons (Nv.pe_lstN (pa_cons (pe_call G__law_bent (hr.mono (by decide)) (by rfl) D__law_bent.m D__law_bent.F.kp D__law_bent.b .nil pass0 (pa_cons (pv 0) (pa_cons (pv 2) pa_nil))) (pa_cons (pe_op Nv.op_catN (pv 2) (Nv.pe_lstN (pa_cons (pe_callB (Nv.cr_lenSeq (K := K) rfl) (by rfl) T.n_len (by decide +kernel) (pa_cons (pv 2) pa_nil)) pa_nil))) (pa_cons (pe_slice Nv.sl_listN (pv 2) (po_some pe_int) po_none) pa_nil)))) pa_nil))) pa_nil))) (pg_tup (by rfl) (pgs_cons (Nv.pg_nameN (i := 4) sc__law_rows_right.nd rfl (by first | exact Or.inl rfl | exact Or.inr rfl)) (pgs_cons (Nv.pg_nameN (i := 5) sc__law_rows_right.nd rfl (by first | exact Or.inl rfl | exact Or.inr rfl)) pgs_nil))))
(pss_cons (Nv.ps_parN (i := 6) (j := 7) (by rfl) sc__law_rows_right.nd rfl rfl (by decide) rfl rfl (pa_cons (pe_call G__law_shelf (hr.mono (by decide)) (by rfl) D__law_shelf.m D__law_shelf.F.kp D__law_shelf.b .nil pass0 (pa_cons (pv 0) (pa_cons (pe_callB (Nv.cr_lenSeq (K := K) rfl) (by rfl) T.n_len (by decide +kernel) (pa_cons (pv 3) pa_nil)) pa_nil))) (pa_cons (pe_call G__law_one_of (hr.mono (by decide)) (by rfl) D__law_one_of.m D__law_one_of.F.kp D__law_one_of.b .nil pass0 (pa_cons (pv 0) (pa_cons (Nv.pe_lstN (pa_cons pe_int (pa_cons pe_bl (pa_cons pe_non (pa_cons (pe_un un_neg pe_int) (pa_cons pe_str (pa_cons (Nv.pe_lstN (pa_cons pe_int pa_nil)) pa_nil))))))) pa_nil))) pa_nil)) (by rfl))
(pss_cons (Nv.ps_setN (i := 8) sc__law_rows_right.nd rfl (by first | exact Or.inl rfl | exact Or.inr rfl) (pe_call G__law_one_of (hr.mono (by decide)) (by rfl) D__law_one_of.m D__law_one_of.F.kp D__law_one_of.b .nil pass0 (pa_cons (pv 0) (pa_cons (pe_op Nv.op_catN (Nv.pe_lstN (pa_cons pe_non (pa_cons pe_int (pa_cons pe_str (pa_cons (pe_op Nv.op_catN (pv 3) (Nv.pe_lstN (pa_cons pe_int pa_nil))) (pa_cons (pe_slice Nv.sl_listN (pv 3) (po_some pe_int) po_none) (pa_cons Nv.pe_dnewN pa_nil))))))) (pe_op op_rep (Nv.pe_lstN (pa_cons (pe_op Nv.op_catN (pe_op Nv.op_catN (pe_slice Nv.sl_listN (pv 3) po_none (po_some (pv 6))) (Nv.pe_lstN (pa_cons (pv 7) pa_nil))) (pe_slice Nv.sl_listN (pv 3) (po_some (pe_op op_add (pv 6) pe_int)) po_none)) pa_nil)) pe_int)) pa_nil))))
(pss_cons (Nv.ps_setN (i := 9) sc__law_rows_right.nd rfl (by first | exact Or.inl rfl | exact Or.inr rfl) (Nv.pe_lstN (pa_cons (heard17 (k := 5) (i := 0) D__law_heard (by rfl) T E_BadSheet E_Misfit TB rfl hmT hu (hr.mono (by decide)) (lamD_by (N := ["pantry", "right", "up", "corners", "bad", "worse", "at", "odd", "none", "heard"]) (sc := defScope s__law_rows_right) (by decide +kernel)) (.inl rfl) rfl (lamB0 rfl fun _ _ _ _ _ _ => rfl) (fun A outer s H E f c hr2 => (pe_make M_Sheet G_Sheet_init (hr2.mono (by decide)) (by rfl) T.g_Sheet B_Sheet_init .nil (passes_call (takes_of rfl rfl rfl rfl) fun _ _ _ _ h => h) (pa_cons (pv 4) (pa_cons (pv 5) (pa_cons (pv 8) pa_nil)))))) (pa_cons (heard17 (k := 5) (i := 0) D__law_heard (by rfl) T E_BadSheet E_Misfit TB rfl hmT hu (hr.mono (by decide)) (lamD_by (N := ["pantry", "right", "up", "corners", "bad", "worse", "at", "odd", "none", "heard"]) (sc := defScope s__law_rows_right) (by decide +kernel)) (.inr ⟨_, _, rfl⟩) rfl (lamB1 (fun z => by cases z) rfl fun _ _ _ _ _ _ _ _ => ⟨_, rfl, rfl⟩) (fun A outer s H E f c hr2 => (pe_make M_Sheet G_Sheet_init (hr2.mono (by decide)) (by rfl) T.g_Sheet B_Sheet_init .nil (passes_call (takes_of rfl rfl rfl rfl) fun _ _ _ _ h => h) (pa_cons (pv 1) (pa_cons (pv 5) (pa_cons (pv 8) pa_nil)))))) (pa_cons (heard17 (k := 5) (i := 0) D__law_heard (by rfl) T E_BadSheet E_Misfit TB rfl hmT hu (hr.mono (by decide)) (lamD_by (N := ["pantry", "right", "up", "corners", "bad", "worse", "at", "odd", "none", "heard"]) (sc := defScope s__law_rows_right) (by decide +kernel)) (.inr ⟨_, _, rfl⟩) rfl (lamB1 (fun z => by cases z) rfl fun _ _ _ _ _ _ _ _ => ⟨_, rfl, rfl⟩) (fun A outer s H E f c hr2 => (pe_make M_Sheet G_Sheet_init (hr2.mono (by decide)) (by rfl) T.g_Sheet B_Sheet_init .nil (passes_call (takes_of rfl rfl rfl rfl) fun _ _ _ _ h => h) (pa_cons (pv 1) (pa_cons (pv 2) (pa_cons (pv 8) pa_nil)))))) pa_nil)))))
(pss_one (ps_ret (pe_cmpR (op_eqD hr.units) (pv 9) (Nv.pe_lstN (pa_cons (Nv.pe_tupN (pa_cons pe_str (pa_cons pe_str pa_nil))) (pa_cons (Nv.pe_tupN (pa_cons pe_str (pa_cons pe_str pa_nil))) (pa_cons (Nv.pe_tupN (pa_cons pe_str (pa_cons pe_str pa_nil))) pa_nil)))) (nomark _)))))))), ?_⟩
    -- bad, worse
    refine ⟨_, rfl, _, rfl, L, a, r, t, l, cs, rfl, ha, aL, or_, few, lan, by omega, fun H1 bad k1 lan1 bv1 => ?_⟩
    have hb1 := k1 _ _ bL hb
    refine ⟨_, rfl, _, rfl, _, rfl, L, b, u, t + 3, l, cs, rfl, hb1, bL, ou, by omega, lan1, by omega, fun H2 w1 k2 lan2 bv2 => ?_⟩
    have hb2 := k2 _ _ bL hb1
    refine ⟨_, rfl, _, rfl, b, _, rfl, .inl (SqL.of hb2), by show 1 ≤ sizeLine; decide, fun c1 H3 n3 e3 s3 => ?_⟩
    refine ⟨b, c1, _, _, rfl, rfl, s3 _ _ hb2, e3, by rw [iV_len]; show _ + 1 ≤ _; omega, fun c2 H4 n4 e4 s4 => ?_⟩
    refine ⟨_, rfl, 1, rfl, b, _, rfl, SqL.of (s4 _ _ (s3 _ _ hb2)), fun c3 H5 n5 e5 s5 => ?_⟩
    rw [show (1 : Int) = ((1 : Nat) : Int) from rfl, cut_drop u 1 (by omega)] at e5
    refine ⟨by show 3 ≤ sizeLine; decide, fun c4 H6 n6 e6 s6 => ?_⟩
    have s26 : Same H2 H6 := (s3.trans s4).trans (s5.trans s6)
    have c2L := (Lan.apart (Lan.same lan2 s3) n4).1
    have c3L := (Lan.apart (Lan.same lan2 (s3.trans s4)) n5).1
    have c4L := (Lan.apart (Lan.same lan2 ((s3.trans s4).trans s5)) n6).1
    refine ⟨L, c4, _, t + 6, l, cs, rfl, .inl e6, c4L, by show 0 < 3; decide, by show 3 ≤ 100000; decide, Lan.same lan2 s26, by omega, fun H7 worse hw k7 lan7 => ⟨by show 2 ≤ sizeLine; decide, fun c5 H8 n8 e8 s8 => ⟨c5, _, rfl, SqT.of e8, rfl, _, _, rfl, fun σ1 d1 => ⟨_, _, rfl, fun σ2 d2 => ⟨rfl, ?_⟩⟩⟩⟩⟩
    have kw : KX L H2 H7 := (KX.of (Same.keep s26)).trans (.of k7)
    have wv : WorseV L H7 r.length worse := by
      simp only [List.mem_cons, List.not_mem_nil, or_false] at hw
      rcases hw with h | h | h <;> subst h
      · exact (bv2.kx kw).worse
      · refine worse_len c2L (k7 _ _ c2L (s6 _ _ (s5 _ _ e4))) ?_
        rw [List.length_append, iV_len]
        show u.length + 1 ≠ _
        omega
      · refine worse_len c3L (k7 _ _ c3L (s6 _ _ e5)) ?_
        rw [iV_len, List.length_drop]
        omega
    subst d1
    obtain rfl : σ2 = [some (.ref L), some (.ref a), some (.ref b), some (.ref d), some bad, some worse, none, none, none, none] := d2
    have k17 : KX L H1 H8 := ((KX.of k2).trans kw).trans (.of (Same.keep s8))
    have k08 : KX L H H8 := (KX.of k1).trans k17
    have bv := bv1.kx k17
    have wv := wv.kx (.of (Same.keep s8))
    have lan8 := Lan.same lan7 s8
    have kp08 : Keep L H H8 := ((k1.trans k2).trans (Same.keep s26)).trans (k7.trans (Same.keep s8))
    have ha8 := kp08 _ _ aL ha
    have hb8 := kp08 _ _ bL hb
    have hd8 := kp08 _ _ dL hd
    have tb8 : ∀ b o, H b = some o → b ≠ L → H8 b = some o := fun b o e nb => kp08 b o nb e
    clear kw k17 s26 e3 e4 e5 e6 e8 n3 n4 n5 n6 n8 hb1 hb2
    -- at, odd
    refine nxI (pSeq ?_)
    refine ⟨_, rfl, _, rfl, d, _, rfl, .inl (SqL.of hd8), L, _, t + 7, l, cs, rfl, by rw [iV_len]; omega, log_small (by rw [iV_len]; omega) (by rw [iV_len]; omega), lan8, by omega, fun H9 r9 k9 lan9 r0 r1 => ?_⟩
    rw [iV_len] at r1
    obtain ⟨k, rfl⟩ : ∃ k : Nat, r9 = (k : Int) := ⟨r9.toNat, by omega⟩
    have hk : k < co.length := by omega
    refine ⟨_, rfl, 1, rfl, by show 1 ≤ sizeLine; decide, fun z0 H10 n10 e10 s10 => ⟨by show 6 ≤ sizeLine; decide, fun m1 H11 n11 e11 s11 => ?_⟩⟩
    have z0L := (Lan.apart lan9 n10).1
    have m1L := (Lan.apart (Lan.same lan9 s10) n11).1
    refine ⟨L, m1, _, t + 8, l, cs, rfl, .inl e11, m1L, by show 0 < 6; decide, by show 6 ≤ 100000; decide, Lan.same lan9 (s10.trans s11), by omega, fun H12 odd ho k12 lan12 => ⟨_, _, rfl, fun σ3 d3 => ?_⟩⟩
    have f0 := k12 _ _ z0L (s11 _ _ e10)
    have ov : OddC L H12 odd := by
      simp only [List.mem_cons, List.not_mem_nil, or_false] at ho
      rcases ho with h | h | h | h | h | h <;> subst h
      · exact ⟨(fun z => by cases z), ⟨_, .int _⟩, by decide⟩
      · exact ⟨(fun z => by cases z), ⟨_, .bl _⟩, rfl⟩
      · exact ⟨(fun z => by cases z), ⟨_, .non⟩, rfl⟩
      · exact ⟨(fun z => by cases z), ⟨_, .int _⟩, by decide⟩
      · exact ⟨(fun z => by cases z), ⟨_, .str _⟩, rfl⟩
      · exact ⟨(fun z => by cases z; exact z0L rfl), ⟨_, .lst f0⟩, rfl⟩
    obtain rfl : σ3 = [some (.ref L), some (.ref a), some (.ref b), some (.ref d), some bad, some worse, some (.int (k : Int)), some odd, none, none] := d3
    have kp812 : Keep L H8 H12 := (k9.trans (Same.keep (s10.trans s11))).trans k12
    have bv := bv.kx (.of kp812)
    have wv := wv.kx (.of kp812)
    have ha12 := kp812 _ _ aL ha8
    have hb12 := kp812 _ _ bL hb8
    have hd12 := kp812 _ _ dL hd8
    have kp012 := kp08.trans kp812
    clear f0 e10 e11 n10 n11 ha8 hb8 hd8 kp812 kp08 tb8 k08
    -- none
    refine nxI (pSeq ?_)
    refine ⟨_, rfl, ?_⟩
    refine ⟨_, rfl, by show 1 ≤ sizeLine; decide, fun g1 H13 n13 e13 s13 => ⟨d, g1, _, _, rfl, rfl, s13 _ _ hd12, e13, by rw [iV_len]; show _ + 1 ≤ _; omega, fun g2 H14 n14 e14 s14 => ?_⟩⟩
    refine ⟨_, rfl, 1, rfl, d, _, rfl, SqL.of (s14 _ _ (s13 _ _ hd12)), fun g3 H15 n15 e15 s15 => ?_⟩
    rw [show (1 : Int) = ((1 : Nat) : Int) from rfl, cut_drop co 1 (by omega)] at e15
    refine fun g4 H16 n16 e16 s16 => ⟨by show 6 ≤ sizeLine; decide, fun g5 H17 n17 e17 s17 => ?_⟩
    have s1217 : Same H12 H17 := ((s13.trans s14).trans (s15.trans s16)).trans s17
    refine rd_swap (K := K) rfl rfl (s1217 _ _ hd12) hk (by omega) (fun H' R _ kk => ⟨_, rfl, kk H' (Same.refl H')⟩) fun g6 H18 s18 n18 e18 => ⟨by show 1 ≤ sizeLine; decide, fun g7 H19 n19 e19 s19 => ?_⟩
    refine ⟨g7, 3, _, rfl, rfl, e19, by decide, by decide, by show 1 * 3 ≤ sizeLine; decide, fun g8 n20 => ?_⟩
    have s20 : Same H19 (upd H19 g8 (.lst (List.replicate (3 : Int).toNat [V.ref g6]).flatten)) := Same.neu n20
    have e20 : (upd H19 g8 (.lst (List.replicate (3 : Int).toNat [V.ref g6]).flatten)) g8 = some (.lst [.ref g6, .ref g6, .ref g6]) := upd_same
    generalize upd H19 g8 (.lst (List.replicate (3 : Int).toNat [V.ref g6]).flatten) = H20 at s20 e20 ⊢
    refine ⟨g5, g8, _, _, rfl, rfl, s20 _ _ (s19 _ _ (s18 _ _ e17)), e20, by show 6 + 3 ≤ sizeLine; decide, fun g9 H21 n21 e21 s21 => ?_⟩
    have s1221 : Same H12 H21 := (s1217.trans (s18.trans s19)).trans (s20.trans s21)
    have g2L := (Lan.apart (Lan.same lan12 s13) n14).1
    have g3L := (Lan.apart (Lan.same lan12 (s13.trans s14)) n15).1
    have g4L := (Lan.apart (Lan.same lan12 ((s13.trans s14).trans s15)) n16).1
    have g6L := (Lan.apart (Lan.same lan12 s1217) n18).1
    have g9L := (Lan.apart (Lan.same lan12 ((s1217.trans (s18.trans s19)).trans s20)) n21).1
    refine ⟨L, g9, _, t + 9, l, cs, rfl, .inl e21, g9L, by show 0 < 9; decide, by show 9 ≤ 100000; decide, Lan.same lan12 s1221, by omega, fun H22 none' hn k22 lan22 => fun σ4 d4 => ?_⟩
    have k1222 : Keep L H12 H22 := (Same.keep s1221).trans k22
    have cv : CornV L H22 r.length none' := by
      have f2 := k22 _ _ g2L (s21 _ _ (s20 _ _ (s19 _ _ (s18 _ _ (s17 _ _ (s16 _ _ (s15 _ _ e14)))))))
      have f3 := k22 _ _ g3L (s21 _ _ (s20 _ _ (s19 _ _ (s18 _ _ (s17 _ _ (s16 _ _ e15))))))
      have f4 := k22 _ _ g4L (s21 _ _ (s20 _ _ (s19 _ _ (s18 _ _ (s17 _ _ e16)))))
      have f6 := k22 _ _ g6L (s21 _ _ (s20 _ _ (s19 _ _ e18)))
      have ov22 := ov.kx (.of k1222)
      have sw := corn_odd (n := r.length) ov22 g6L f6
      simp only [List.mem_cons, List.not_mem_nil, or_false, List.mem_append] at hn
      rcases hn with (h | h | h | h | h | h) | h | h | h <;> subst h
      · exact corn_flat .non (fun z => by cases z) rfl
      · exact corn_flat (.int _) (fun z => by cases z) rfl
      · exact corn_flat (.str _) (fun z => by cases z) rfl
      · refine corn_len g2L f2 ?_
        rw [List.length_append, iV_len]
        show co.length + 1 ≠ _
        omega
      · refine corn_len g3L f3 ?_
        rw [iV_len, List.length_drop]
        omega
      · exact corn_flat (.dic f4) (fun z => by cases z; exact g4L rfl) rfl
      · exact sw
      · exact sw
      · exact sw
    obtain rfl : σ4 = [some (.ref L), some (.ref a), some (.ref b), some (.ref d), some bad, some worse, some (.int (k : Int)), some odd, some none', none] := d4
    have bv := bv.kx (.of k1222)
    have wv := wv.kx (.of k1222)
    have ha22 := k1222 _ _ aL ha12
    have hb22 := k1222 _ _ bL hb12
    have kp : Keep L H H22 := kp012.trans k1222
    have tb22 : Tabs TT H22 := fun p hp => by
      obtain ⟨ps, h1, h2, h3⟩ := tb p hp
      have pL : p.1 ≠ L := fun z => by
        obtain ⟨o, e⟩ := lan.ne
        obtain ⟨_, _, e2, _⟩ := lan.ex
        rw [z, e2] at h1
        cases h1
      refine ⟨ps, kp _ _ pL h1, h2, fun pos cv hcv => ?_⟩
      obtain ⟨c0, e1, e2⟩ := h3 pos cv hcv
      refine ⟨c0, e1, kp _ _ (fun z => ?_) e2⟩
      obtain ⟨_, _, e3, _⟩ := lan.ex
      rw [z, e3] at e2
      unfold CodeO at e2
      cases e2
    clear e13 e14 e15 e16 e17 e18 e19 e20 e21 n13 n14 n15 n16 n17 n18 n19 n20 n21 hd12 ha12 hb12 s1217 s1221 k1222
    -- what is heard
    refine nxI (pSeq (pAsg (pLst3 (hear (o := some (true, "right")) (r := []) (u := []) (c := []) tb22 (fun H1 R e1 kk => ⟨_, rfl, _, rfl, _, rfl, kk H1 _ _ _ (Same.refl H1) (.right (bv.kx ((KX.of (Keep.refl L H22)).ext e1)).first)⟩) fun p1 HA eA tA fA => ?_))))
    have haA := eA _ _ ha22 (fun ps z => by cases z)
    have hbA := eA _ _ hb22 (fun ps z => by cases z)
    have kA : KX L H22 HA := (KX.of (Keep.refl L H22)).ext eA
    have wvA := wv.kx kA
    refine hear (o := some (true, "up")) (r := []) (u := []) (c := []) tA (fun H1 R e1 kk => ⟨_, rfl, _, rfl, _, rfl, kk H1 _ _ _ (Same.refl H1) (.up (good_lst (e1 _ _ haA fun ps z => by cases z)) or_ (by omega) (wvA.kx ((KX.of (Keep.refl L HA)).ext e1)).bad)⟩) fun p2 HB eB tB fB => ?_
    have haB := eB _ _ haA (fun ps z => by cases z)
    have hbB := eB _ _ hbA (fun ps z => by cases z)
    have kB : KX L H22 HB := kA.ext eB
    have cvB := cv.kx kB
    refine hear (o := some (true, "corners")) (r := []) (u := []) (c := []) tB (fun H1 R e1 kk => ⟨_, rfl, _, rfl, _, rfl, kk H1 _ _ _ (Same.refl H1) (.corners (good_lst (e1 _ _ haB fun ps z => by cases z)) or_ (by omega) (good_lst (e1 _ _ hbB fun ps z => by cases z)) ou lu (cvB.kx ((KX.of (Keep.refl L HB)).ext e1)).bad)⟩) fun p3 HC eC tC' fC => ?_
    have f1 := eC _ _ (eB _ _ fA fun ps z => by cases z) fun ps z => by cases z
    have f2 := eC _ _ fB fun ps z => by cases z
    refine ⟨by decide, fun hh HD nD eD sD => fun σ5 d5 => ?_⟩
    obtain rfl : σ5 = [some (.ref L), some (.ref a), some (.ref b), some (.ref d), some bad, some worse, some (.int (k : Int)), some odd, some none', some (.ref hh)] := d5
    refine ⟨_, rfl, by show 2 ≤ sizeLine; decide, fun q1 HE nE eE sE => ⟨by show 2 ≤ sizeLine; decide, fun q2 HF nF eF sF => ⟨by show 2 ≤ sizeLine; decide, fun q3 HG nG eG sG => ⟨by show 3 ≤ sizeLine; decide, fun q4 HI nI eI sI => ?_⟩⟩⟩⟩
    have sDI : Same HD HI := (sE.trans sF).trans (sG.trans sI)
    refine ⟨dHeard, dHeard, dp_heard (sDI _ _ eD) (sDI _ _ (sD _ _ f1)) (sDI _ _ (sD _ _ f2)) (sDI _ _ (sD _ _ fC)), dp_heard eI (sI _ _ (sG _ _ (sF _ _ eE))) (sI _ _ (sG _ _ eF)) (sI _ _ eG), sh_heard, sh_heard, ?_⟩
    rw [ev_heard]
    have kI : KX L H22 HI := ((kB.ext eC).trans (.of (Same.keep sD))).trans (.of (Same.keep sDI))
    refine q HI ((KX.of kp).trans kI) (Lan.more (Lan.same (Lan.same (Lan.ext (Lan.ext (Lan.ext lan22 eA) eB) eC) sD) sDI) (by omega)) ?_
    exact (tC'.ext sD).ext sDI
end
end K17

set_option maxRecDepth 100000
set_option maxHeartbeats 4000000
namespace K17
open PySem PySem.Spec PyProof.Rows L2 Nv LamX
/-! ### what is due of a sheet's making, and what is heard -/
def dOf : Option (Bool × Str) → PyData
  | some (b, part) => .tuple [.str (wordOf b), .str part]
  | none => .none
def DueO (H : Hp) (v : V) : Option (Bool × Str) → Prop
  | some (b, part) => ∃ p, v = .ref p ∧ H p = some (.tup [.str (wordOf b), .str part])
  | none => v = .non
theorem DueO.dp {K : PySem.W.Frag} {H : Hp} {v : V} : ∀ {o : Option (Bool × Str)}, DueO H v o → Dp K H v (dOf o)
  | some (b, part), ⟨p, e, h⟩ => by
    subst e
    exact .tup (SqT.of h) (.cons (.str _) (.cons (.str _) .nil))
  | none, e => by
    cases (show v = .non from e)
    exact .non
theorem DueO.ext {H H' : Hp} {v : V} (k : ExtN H H') : ∀ {o : Option (Bool × Str)}, DueO H v o → DueO H' v o
  | some (_, _), ⟨p, e, h⟩ => ⟨p, e, k _ _ h fun ps z => by cases z⟩
  | none, e => e
theorem DueO.same {H H' : Hp} {v : V} {o : Option (Bool × Str)} (h : DueO H v o) (k : Same H H') : DueO H' v o := h.ext (ExtN.of k)
theorem DueO.kx {L l : Addr} {cs : List Int} {t : Nat} {H H' : Hp} {v : V} (lan : Lan H L l cs t) (k : KX L H H') : ∀ {o : Option (Bool × Str)}, DueO H v o → DueO H' v o
  | some (_, _), ⟨p, e, h⟩ => ⟨p, e, k _ _ (fun z => by
      obtain ⟨_, _, e2, _⟩ := lan.ex
      rw [z, e2] at h
      cases h) h fun ps z => by cases z⟩
  | none, e => e
/-- the three ways that rows of right lengths go -/
inductive Out (r u c : List Nat) : Option (Bool × Str) → List Nat → List Nat → List Nat → Prop
  | apart (no : ¬ All r u) : Out r u c (some (false, "up")) [] [] []
  | free (ya : All r u) (no : ¬ Corn r u c) : Out r u c (some (false, "corners")) [] [] []
  | ok (ya : All r u) (yc : Corn r u c) : Out r u c none r u c
theorem Out.ends {H : Hp} {x y z : V} {r u c r' u' c' : List Nat} {o : Option (Bool × Str)} (h : Out r u c o r' u' c') (or_ : Ord r) (ou : Ord u) (few : r.length ≤ 400) (lu : u.length = r.length) (lc : c.length = r.length) (b : ∀ n ∈ c, n ≤ 1)
    (g1 : GoodRow H x r) (g2 : GoodRow H y u) (g3 : GoodRow H z c) : Ends17 H x y z o r' u' c' := by
  cases h with
  | apart no => exact .apart g1 or_ few g2 ou lu g3 lc b no
  | free ya no => exact .free g1 or_ few g2 ou lu g3 lc b ya no
  | ok ya yc => exact .ok g1 or_ few g2 ou lu g3 lc b ya yc
theorem Out.shaped {r u c r' u' c' : List Nat} {o : Option (Bool × Str)} (h : Out r u c o r' u' c') : SeqAt.shaped (dOf o) = true ∧ PyData.eqv (dOf o) (dOf o) = true := by
  cases h with
  | apart no => exact ⟨by decide +kernel, by decide +kernel⟩
  | free ya no => exact ⟨by decide +kernel, by decide +kernel⟩
  | ok ya yc => exact ⟨by decide +kernel, by decide +kernel⟩
/-- _law_heard(lambda: Sheet(..)), what is heard told as what is due -/
theorem hearO {CS CB CF : Addr} {T : List (Addr × Str)} {σ : L2.St} {H : Hp} {Q : VK} {args : TA} {o : Option (Bool × Str)} {r u c : List Nat} (tb : Tabs T H)
    (ha : ∀ (H1 : Hp) (R : List V → Hp → Prop), ExtN H H1 → (∀ (H2 : Hp) (x y z : V), Same H1 H2 → Ends17 H2 x y z o r u c → R [x, y, z] H2) → args σ H1 R)
    (q : ∀ (v : V) (H' : Hp), ExtN H H' → Tabs T H' → DueO H' v o → Q v H') : tLam T (TTh CB CF) (fun E => tMake CS (spInit17 CS CB CF) [] E args) σ H Q := by
  refine hear tb ha ?_
  cases o with
  | some bp => exact fun p H' e t h => q _ H' e t ⟨p, rfl, h⟩
  | none => exact fun H' e t => q _ H' e t rfl
def kwS {α : Type} (vs zs : List α) : List α := match vs, zs with
  | [s], [c, u, r] => [s, r, u, c]
  | _, r => r
/-- _law_heard(lambda: Sheet(corners=.., up=.., right=..)) -/
theorem hearK {CS CB CF : Addr} {T : List (Addr × Str)} {σ : L2.St} {H : Hp} {Q : VK} {args : TA} {o : Option (Bool × Str)} {r u c : List Nat} (tb : Tabs T H)
    (ha : ∀ (H1 : Hp) (R : List V → Hp → Prop), ExtN H H1 → (∀ (H2 : Hp) (x y z : V), Same H1 H2 → Ends17 H2 x y z o r u c → R [z, y, x] H2) → args σ H1 R)
    (q : ∀ (v : V) (H' : Hp), ExtN H H' → Tabs T H' → DueO H' v o → Q v H') : tLam T (TTh CB CF) (fun E => tMakeK CS 0 ["corners", "up", "right"].length (spInit17 CS CB CF) kwS E tNil args) σ H Q := by
  refine ⟨tb, fun H1 e1 t1 Q' hq => ha H1 _ e1 fun H2 x y z s2 en => ⟨rfl, rfl, fun p dx np nd ne => ?_⟩⟩
  have s3 : Same H2 (upd (upd H2 dx (.own p)) p (.ins CS dx [])) := made_same np nd ne
  refine ⟨p, dx, x, y, z, o, r, u, c, rfl, upd_same, en.same s3, ?_⟩
  cases o with
  | some bp =>
    obtain ⟨b, part⟩ := bp
    refine fun d H4 s4 e4 => ⟨b, part, d, rfl, rfl, e4, fun p5 H5 s5 n5 e5 => q (.ref p5) H5 ?_ ?_ ⟨p5, rfl, e5⟩⟩
    · exact ExtN.same e1 (s2.trans (s3.trans (s4.trans s5)))
    · exact t1.ext (s2.trans (s3.trans (s4.trans s5)))
  | none =>
    intro H4 k4 _
    have s4 : Same H2 H4 := fun b ob e => k4 b ob (ne_of_none e np) (s3 _ _ e)
    exact ⟨rfl, hq _ H4 fun H5 s5 => q .non H5 (ExtN.same e1 (s2.trans (s4.trans s5))) (t1.ext (s2.trans (s4.trans s5))) rfl⟩
/-- Sheet(x, y, z), a sheet comes -/
theorem made {CS CB CF : Addr} {σ : L2.St} {H : Hp} {Q : VK} {args : TA} {r u c : List Nat} {E : XK}
    (ha : ∀ R : List V → Hp → Prop, (∀ (H2 : Hp) (x y z : V), Same H H2 → Ends17 H2 x y z none r u c → R [x, y, z] H2) → args σ H R)
    (q : ∀ (p : Addr) (H' : Hp), Same H H' → ShAt CS H' p r u c → Q (.ref p) H') : tMake CS (spInit17 CS CB CF) [] E args σ H Q := by
  refine ha _ fun H2 x y z s2 en p dx np nd ne => ?_
  have s3 : Same H2 (upd (upd H2 dx (.own p)) p (.ins CS dx [])) := made_same np nd ne
  refine ⟨p, dx, x, y, z, none, r, u, c, rfl, upd_same, en.same s3, fun H4 k4 sh => ⟨rfl, q p H4 (s2.trans fun b ob e => k4 b ob (ne_of_none e np) (s3 _ _ e)) sh⟩⟩
/-- tuple(e), its reading naming K alone -/
theorem cr_tupK {X : Cx} {K : PySem.W.Frag} (h : X.K = K) : CallR X (.type "tuple") (rTupN K) := h ▸ cr_tupN
/-! ### rows shown -/
def Shows (d : PyData) : Prop := d.showable = true ∧ d.hasDict = false ∧ d.depth ≤ 60 ∧ d.shown.length ≤ sizeLine
theorem short_nat : ∀ n : Nat, n < 100 → (PyData.shown (.int (n : Int))).length ≤ 13 := by decide +kernel
theorem log_nat : ∀ n : Nat, n < 100 → ((n : Int)).natAbs.log2 < 10 := by decide +kernel
theorem rows_laid : ∀ ns : List Nat, (∀ n ∈ ns, n < 100) → PyData.canLayAll0 (pI ns) = true ∧ PyData.depthAll (pI ns) = 0 ∧ PyData.weightAll (pI ns) ≤ 12 * ns.length ∧ PyData.intsShortAll 13 (pI ns) = true ∧ PyData.showableAll (pI ns) = true ∧ PyData.hasDictAll (pI ns) = false
  | [], _ => ⟨rfl, rfl, Nat.le_refl _, rfl, rfl, rfl⟩
  | n :: ns, h => by
    obtain ⟨h1, h2, h3, h4, h5, h6⟩ := rows_laid ns fun m hm => h m (List.mem_cons_of_mem _ hm)
    have hn := h n List.mem_cons_self
    have a1 := short_nat n hn
    have a2 := log_nat n hn
    have e : pI (n :: ns) = PyData.int (n : Int) :: pI ns := rfl
    rw [e]
    refine ⟨?_, ?_, ?_, ?_, ?_, ?_⟩
    · simp only [PyData.canLayAll0, PyData.canLay0, h1, Bool.and_self]
    · simp only [PyData.depthAll, PyData.depth, h2]; rfl
    · simp only [PyData.weightAll, PyData.weight, List.length_cons]
      split <;> omega
    · simp only [PyData.intsShortAll, PyData.intsShort, h4, Bool.and_true, decide_eq_true_eq]
      exact a1
    · simp only [PyData.showableAll, PyData.showable, h5, Bool.and_true, decide_eq_true_eq]
      omega
    · simp only [PyData.hasDictAll, PyData.hasDict, h6, Bool.or_self]
def dSheet (r u c : List Nat) (n : Nat) : PyData := .list [.tuple (pI r), .tuple (pI u), .tuple (pI c), .int (n : Int)]
theorem shows_sheet {r u c : List Nat} {n : Nat} (h1 : ∀ m ∈ r, m < 100) (h2 : ∀ m ∈ u, m < 100) (h3 : ∀ m ∈ c, m < 100) (hn : n < 100) (l1 : r.length ≤ 100) (l2 : u.length ≤ 100) (l3 : c.length ≤ 100) : Shows (dSheet r u c n) := by
  obtain ⟨a1, a2, a3, a4, a5, a6⟩ := rows_laid r h1
  obtain ⟨b1, b2, b3, b4, b5, b6⟩ := rows_laid u h2
  obtain ⟨c1, c2, c3, c4, c5, c6⟩ := rows_laid c h3
  have s := short_nat n hn
  have g := log_nat n hn
  have dep : (dSheet r u c n).depth = 2 := by simp only [dSheet, PyData.depth, PyData.depthAll, a2, b2, c2]; rfl
  have wt : (dSheet r u c n).weight ≤ 4000 := by
    simp only [dSheet, PyData.weight, PyData.weightAll]
    split <;> omega
  have lay : (dSheet r u c n).layable0 = true := by
    unfold PyData.layable0
    simp only [Bool.and_eq_true, decide_eq_true_eq]
    refine ⟨⟨?_, by omega⟩, Nat.le_trans wt (by decide)⟩
    simp only [dSheet, PyData.canLay0, PyData.canLayAll0, a1, b1, c1, Bool.and_self]
  have short : (dSheet r u c n).intsShort 13 = true := by
    simp only [dSheet, PyData.intsShort, PyData.intsShortAll, a4, b4, c4, Bool.true_and, Bool.and_true, decide_eq_true_eq]
    exact s
  refine ⟨?_, ?_, by omega, Nat.le_trans (shown_le13 lay short) (by decide)⟩
  · simp only [dSheet, PyData.showable, PyData.showableAll, a5, b5, c5, Bool.true_and, Bool.and_true, decide_eq_true_eq]
    omega
  · simp only [dSheet, PyData.hasDict, PyData.hasDictAll, a6, b6, c6, Bool.or_self]
theorem rd_repr {K : PySem.W.Frag} {σ : L2.St} {H : Hp} {p : Addr} {vs : List V} {ds : List PyData} {Q : VK} (h : H p = some (.lst vs)) (a : DpAll K H vs ds) (s : Shows (.list ds)) (q : ∀ z : Str, z = PyData.shown (.list ds) → Q (.str z) H) : tNil σ H (fun xs H2 => Nv.rRepr K (V.ref p :: xs) H2 Q) :=
  ⟨p, _, rfl, .lst (SqL.of h) a, s.1, s.2.1, s.2.2.1, s.2.2.2, q _ rfl⟩
theorem neEq {x y : V} {A B : Prop} (e : x = y) (h : B) : if (!decide (x = y)) = true then A else B := iteNS e h
theorem eqvAll_self (ns : List Nat) : PyData.eqv (.list (pI ns)) (.list (pI ns)) = true := by
  have := eqvAll_I ns ns
  simp [PyData.eqv, this]
theorem eqv_listI (a b : List Nat) : PyData.eqv (.list (pI a)) (.list (pI b)) = decide (a = b) := by
  have := eqvAll_I a b
  simp only [PyData.eqv, this]
/-- due is the same as what is heard -/
theorem ne_due {K : PySem.W.Frag} {H : Hp} {v w : V} {r u c r' u' c' : List Nat} {o : Option (Bool × Str)} {Q : VK} (h : Out r u c o r' u' c') (d1 : DueO H v o) (d2 : DueO H w o) (q : Q (.bl false) H) : rNeD K v w H Q := by
  refine ⟨dOf o, dOf o, d1.dp, d2.dp, h.shaped.1, h.shaped.1, ?_⟩
  rw [h.shaped.2]
  exact q
end K17

set_option maxRecDepth 100000
set_option maxHeartbeats 4000000
namespace K17
open PySem PySem.Spec PyProof.Rows L2 Nv LamX
/-- what is due, by the search alone -/
def Due1 (H : Hp) (v : V) (r u : List Nat) : Prop := (All r u ∧ v = .non) ∨ (¬ All r u ∧ ∃ t, v = .ref t ∧ H t = some (.tup [.str "misfit", .str "up"]))
theorem due1 {σ : L2.St} {H : Hp} {Q : VK} {p p2 : Addr} {r u : List Nat} (h4 : σ[4]? = some (some (.ref p))) (h5 : σ[5]? = some (some (.ref p2))) (hp : H p = some (.lst (iV r))) (hp2 : H p2 = some (.lst (iV u))) (or_ : Ord r) (ou : Ord u) (l : r.length = u.length) (few : r.length ≤ 1000)
    (q : ∀ v H', Same H H' → Due1 H' v r u → Q v H') :
    tIf (tB (tCall spHangs [] E0 (tCons (tVar 4) (tCons (tVar 5) tNil)))) (tC .non) (tTupN (tCons (tC (.str "misfit")) (tCons (tC (.str "up")) tNil))) σ H Q := by
  refine ⟨_, h4, _, h5, p, p2, r, u, rfl, hp, hp2, or_, ou, l, few, fun ch H8 s8 hch => ⟨_, rfl, ifb (fun z => q _ H8 s8 (.inl ⟨hch.mp z, rfl⟩)) (fun z => ⟨by show 2 ≤ sizeLine; decide, fun t H9 nt et st => q _ H9 (s8.trans st) (.inr ⟨fun y => ?_, t, rfl, et⟩)⟩)⟩⟩
  rw [hch.mpr y] at z
  cases z
def zeroAt (co : List Nat) : V → Bool
  | .int k => decide (co[k.toNat]? = some 0)
  | _ => false
theorem zero_int (co : List Nat) (m : Nat) : zeroAt co (.int (m : Int)) = decide (co[m]? = some 0) := rfl
theorem filt_zero (co : List Nat) : ∀ ns : List Nat, ∃ X : List Nat, ((iV ns).filter (zeroAt co)).map id = iV X ∧ X.length ≤ ns.length ∧ (X.isEmpty = true ↔ ∀ m ∈ ns, co[m]? ≠ some 0)
  | [] => ⟨[], rfl, Nat.le_refl _, by simp⟩
  | n :: ns => by
    obtain ⟨X, e, l, h⟩ := filt_zero co ns
    have e0 : iV (n :: ns) = .int (n : Int) :: iV ns := rfl
    rw [e0, List.filter_cons, zero_int]
    by_cases z : co[n]? = some 0
    · refine ⟨n :: X, ?_, by simp only [List.length_cons]; omega, ?_⟩
      · rw [if_pos (decide_eq_true z), List.map_cons, e]
        rfl
      · simp [z]
    · refine ⟨X, ?_, by simp only [List.length_cons]; omega, ?_⟩
      · rw [if_neg (by simp [z]), e]
      · rw [h]
        simp [z]
theorem due2 {K : PySem.W.Frag} {v0 v1 v2 v3 v4 v5 v8 v10 v11 v12 v13 : Option V} {H : Hp} {Q : VK} {pm D : Addr} {r u co : List Nat} {v : V} (hpm : H pm = some (.lst (iV (mustL r u r.length)))) (hD : H D = some (.lst (iV co))) (or_ : Ord r) (ou : Ord u) (l : r.length = u.length) (lc : co.length = r.length) (few : r.length ≤ 1000)
    (hv : Due1 H v r u) (q : ∀ (w : V) (H' : Hp) (o : Option (Bool × Str)) (r' u' c' : List Nat), Same H H' → Out r u co o r' u' c' → DueO H' w o → Q w H') :
    tIf (tAnd (tTest (tOp (fun x y H Q => y = .non ∧ Q (.bl (decide (x = .non))) H) (tVar 9) (tC .non))) (tTest (tOp (rNeD K) (tLc (iList K (tVar 6)) (gName 8) (tTest (tOp rEq (tOp (rIxL K) (tVar 7) (tVar 8)) (tC (.int 0)))) (tVar 8) [8]) (tLstN tNil))))
      (tTupN (tCons (tC (.str "misfit")) (tCons (tC (.str "corners")) tNil))) (tVar 9) [v0, v1, v2, v3, v4, v5, some (.ref pm), some (.ref D), v8, some v, v10, v11, v12, v13] H Q := by
  have big : sizeLine = 16777216 := by decide
  rcases hv with ⟨ya, rfl⟩ | ⟨na, t, rfl, et⟩
  · refine ⟨_, rfl, rfl, _, rfl, iteT ?_⟩
    refine pOp (pLc ⟨_, rfl, ?_⟩)
    obtain ⟨X, eX, lX, hX⟩ := filt_zero co (mustL r u r.length)
    have lm := mustL_len r u r.length
    refine lc_rowL (K := K) (a := pm) (xs := iV (mustL r u r.length)) (i := 8) (vs := [8]) (σ := [v0, v1, v2, v3, v4, v5, some (.ref pm), some (.ref D), v8, some .non, v10, v11, v12, v13]) (tt := tTest (tOp rEq (tOp (rIxL K) (tVar 7) (tVar 8)) (tC (.int 0)))) (te := tVar 8) id (zeroAt co)
      (SqL.of hpm) (by rw [iV_len]; omega) (fun _ => rfl) (fun x H' R hx s' kk => ?_) (fun x H' R _ _ s' kk => ⟨_, rfl, kk H' (Same.refl H')⟩) (fun E H1 nE eE s1 => ?_)
    · obtain ⟨m, hm, rfl⟩ := mem_iV.mp hx
      have ml := mustL_lt or_ ou l m hm
      obtain ⟨k, hk⟩ : ∃ k, co[m]? = some k := ⟨co[m], List.getElem?_eq_getElem (by omega)⟩
      refine ⟨_, rfl, _, rfl, D, _, _, _, rfl, rfl, SqL.of (s' _ _ hD), atI_nat (iV_get hk), rfl, _, rfl, ?_⟩
      have e : decide (V.int (k : Int) = V.int 0) = zeroAt co (.int (m : Int)) := by
        rw [zero_int, hk]
        refine decide_eq_decide.mpr ⟨fun z => ?_, fun z => ?_⟩
        · injection z with z
          rw [show k = 0 from by omega]
        · injection z with z
          rw [z]
          rfl
      rw [e]
      exact kk H' (Same.refl H')
    · rw [eX] at eE
      refine ⟨by show 0 ≤ sizeLine; decide, fun N H2 nN eN s2 => ⟨.list (pI X), .list [], .lst (SqL.of (s2 _ _ eE)) (dp_iV X), .lst (SqL.of eN) .nil, shaped_listI X, by decide +kernel, _, rfl, ?_⟩⟩
      rw [eqv_nilI]
      refine ifb (fun z => ⟨by show 2 ≤ sizeLine; decide, fun t H3 nt et s3 => q _ H3 _ _ _ _ ((s1.trans s2).trans s3) (.free ya fun y => ?_) ⟨t, rfl, et⟩⟩) (fun z => ⟨_, rfl, q _ H2 _ _ _ _ (s1.trans s2) (.ok ya (corn_must.mpr (hX.mp ?_))) rfl⟩)
      · rw [hX.mpr (corn_must.mp y)] at z
        cases z
      · cases e : X.isEmpty with
        | true => rfl
        | false => rw [e] at z; cases z
  · exact ⟨_, rfl, rfl, _, rfl, iteF (iteF ⟨_, rfl, q _ H _ _ _ _ (Same.refl H) (.apart na) ⟨t, rfl, et⟩⟩)⟩

/-! ### readings peeled -/
theorem pTestOp {r : R2} {ta tb : TE} {σ : L2.St} {H : Hp} {Q : Bool → Hp → Prop} (h : ta σ H fun x H1 => tb σ H1 fun y H2 => r x y H2 fun v H3 => ∃ d, v = .bl d ∧ Q d H3) : tTest (tOp r ta tb) σ H Q := h
theorem pOr {tA tB : TT} {σ : L2.St} {H : Hp} {Q : Bool → Hp → Prop} (h : tA σ H fun b H1 => if b = true then Q true H1 else tB σ H1 Q) : tOr tA tB σ H Q := h
theorem pCons {te : TE} {ta : TA} {σ : L2.St} {H : Hp} {Q : List V → Hp → Prop} (h : te σ H fun x H1 => ta σ H1 fun xs H2 => Q (x :: xs) H2) : tCons te ta σ H Q := h
theorem pIfS {c : TT} {t v : TS} {D : Ends} {σ : L2.St} {H : Hp} (h : c σ H fun b H1 => if b = true then t D σ H1 else v D σ H1) : tIfS c t v D σ H := h
theorem pCBl {r : List V → Hp → VK → Prop} {t : TA} {σ : L2.St} {H : Hp} {Q : VK} (h : tLstN t σ H fun x H1 => r [x] H1 Q) : tCB r (tCons (tLstN t) tNil) σ H Q := h
theorem pTup {t : TA} {σ : L2.St} {H : Hp} {Q : VK} (h : t σ H fun xs H1 => xs.length ≤ sizeLine ∧ New H1 (.tup xs) Q) : tTupN t σ H Q := h
theorem pLst2 {t1 t2 : TE} {σ : L2.St} {H : Hp} {Q : VK} (h : t1 σ H fun x H1 => t2 σ H1 fun y H2 => 2 ≤ sizeLine ∧ New H2 (.lst [x, y]) Q) : tLstN (tCons t1 (tCons t2 tNil)) σ H Q := h
/-- list(x) -/
theorem list_of {K : PySem.W.Frag} {H : Hp} {σ : L2.St} {i : Nat} {p : Addr} {ns : List Nat} {R : VK} (hx : σ[i]? = some (some (.ref p))) (h : H p = some (.lst (iV ns))) (q : ∀ (t : Addr) (H' : Hp), Same H H' → H' t = some (.lst (iV ns)) → R (.ref t) H') :
    tCB (fun xs H Q => ∃ p ys, xs = [.ref p] ∧ (SqL K H p ys ∨ SqT K H p ys) ∧ ∀ l, H l = none → Q (.ref l) (upd H l (.lst ys))) (tCons (tVar i) tNil) σ H R :=
  ⟨_, hx, p, _, rfl, .inl (SqL.of h), fun l n => q l _ (Same.neu n) upd_same⟩
/-- what the last ones are -/
def dLast : PyData := .list [.none, .tuple [.str "sheet", .str "right"]]
theorem ev_last : PyData.eqv dLast dLast = true := by decide +kernel
theorem sh_last : SeqAt.shaped dLast = true := by decide +kernel
theorem dp_last {K : PySem.W.Frag} {H : Hp} {h p : Addr} (e : H h = some (.lst [.non, .ref p])) (e1 : H p = some (.tup [.str "sheet", .str "right"])) : Dp K H (.ref h) dLast := .lst (SqL.of e) (.cons .non (.cons (.tup (SqT.of e1) (.cons (.str _) (.cons (.str _) .nil))) .nil))
theorem good_tup {H : Hp} {p : Addr} {ns : List Nat} (e : H p = some (.tup (iV ns))) : GoodRow H (.ref p) ns := ⟨_, .tup e, rfl⟩
theorem rd_repr1 {K : PySem.W.Frag} {H : Hp} {p : Addr} {vs : List V} {ds : List PyData} {Q : VK} (h : H p = some (.lst vs)) (a : DpAll K H vs ds) (s : Shows (.list ds)) (q : ∀ z : Str, z = PyData.shown (.list ds) → Q (.str z) H) : Nv.rRepr K [.ref p] H Q :=
  ⟨p, _, rfl, .lst (SqL.of h) a, s.1, s.2.1, s.2.2.1, s.2.2.2, q _ rfl⟩
section
variable {K : PySem.W.Frag} {mg : Str → Option Value} {tk : Tok} {CS CB CF CT CM fE : Addr}
/-- a sheet beside a sheet -/
theorem eq_sheets {neg : Bool} {E : XK} {H : Hp} {Q : VK} {a b : Addr} {r u c r' u' c' : List Nat} (T : Txt K mg tk CS CB CF CT CM fE) (N : InC K CS) (sa : ShAt CS H a r u c) (sb : ShAt CS H b r' u' c')
    (q : Q (.bl (if neg then !decide (r = r' ∧ u = u' ∧ c = c') else decide (r = r' ∧ u = u' ∧ c = c'))) H) : rOwnC neg K CS (spEqS K CS) E (.ref a) (.ref b) H Q := by
  obtain ⟨dx, ar, au, ac, h1, h2⟩ := id sa
  obtain ⟨dy, br, bu, bc, g1, g2⟩ := id sb
  exact ⟨a, dx, _, .ref CS, rfl, h1, .base (.ins g1 T.cl N.ha N.hn N.ht N.hm), T.nfS, a, .ref b, rfl, .inl ⟨b, r, u, c, r', u', c', rfl, sa, sb, _, rfl, q⟩⟩
/-- a sheet beside a tuple -/
theorem eq_tup {neg : Bool} {E : XK} {H : Hp} {Q : VK} {a b : Addr} {r u c : List Nat} {xs : List V} (T : Txt K mg tk CS CB CF CT CM fE) (sa : ShAt CS H a r u c) (sb : H b = some (.tup xs))
    (q : Q (.bl (if neg then !false else false)) H) : rOwnC neg K CS (spEqS K CS) E (.ref a) (.ref b) H Q := by
  obtain ⟨dx, ar, au, ac, h1, h2⟩ := id sa
  exact ⟨a, dx, _, .type "tuple", rfl, h1, .base (.tup sb), T.nfT, a, .ref b, rfl, .inr ⟨b, xs, rfl, sb, _, rfl, q⟩⟩
/-- [sheet.right, sheet.up, sheet.corners, sheet.many] -/
theorem flds {i : Nat} {σ : L2.St} {H : Hp} {p : Addr} {r u c : List Nat} {Q : VK} (T : Txt K mg tk CS CB CF CT CM fE) (hi : σ[i]? = some (some (.ref p))) (sa : ShAt CS H p r u c)
    (q : ∀ (a : Addr) (H' : Hp), Same H H' → (∃ vs, H' a = some (.lst vs) ∧ DpAll K H' vs [.tuple (pI r), .tuple (pI u), .tuple (pI c), .int (r.length : Int)]) → Q (.ref a) H') :
    tLstN (tCons (tFld K (tVar i) "right") (tCons (tFld K (tVar i) "up") (tCons (tFld K (tVar i) "corners") (tCons (tFld K (tVar i) "many") tNil)))) σ H Q := by
  obtain ⟨dx, ar, au, ac, h1, h2, h3, h4⟩ := id sa
  refine ⟨_, hi, p, CS, dx, _, _, rfl, h1, T.cl, T.nR, fld_r .., _, hi, p, CS, dx, _, _, rfl, h1, T.cl, T.nU, fld_u .., _, hi, p, CS, dx, _, _, rfl, h1, T.cl, T.nC, fld_c .., _, hi, p, CS, dx, _, _, rfl, h1, T.cl, T.nM, fld_m .., by show 4 ≤ sizeLine; decide, fun a H1 na ea s1 => ?_⟩
  exact q a H1 s1 ⟨_, ea, .cons (.tup (SqT.of (s1 _ _ h2)) (dp_iV r)) (.cons (.tup (SqT.of (s1 _ _ h3)) (dp_iV u)) (.cons (.tup (SqT.of (s1 _ _ h4)) (dp_iV c)) (.cons (.int _) .nil)))⟩
end
/-! ### the ring of 400 -/
def ring : List Nat := (List.range 400).map fun j => (j + 1) % 400
theorem ring_len : ring.length = 400 := by simp [ring]
theorem ring_at {j : Nat} (h : j < 400) : ring[j]? = some ((j + 1) % 400) := by
  unfold ring
  rw [List.getElem?_map, List.getElem?_range h]
  rfl
theorem ring_ord : Ord ring := by
  refine ⟨fun e => ?_, fun n hn => ?_, ?_⟩
  · have := ring_len
    rw [e] at this
    cases this
  · rw [ring_len]
    obtain ⟨j, _, rfl⟩ := List.mem_map.mp hn
    exact Nat.mod_lt _ (by decide)
  · unfold ring
    rw [List.Nodup, List.pairwise_map]
    refine List.Pairwise.imp_of_mem (fun {a b} ha hb h => ?_) (List.nodup_range (n := 400))
    have h1 := List.mem_range.mp ha
    have h2 := List.mem_range.mp hb
    omega
theorem ring_all : All ring ring := fun m hm => by
  rw [ring_len] at hm
  induction m with
  | zero => exact .zero
  | succ m ih => exact .right (ih (by omega)) (by rw [ring_at (by omega), Nat.mod_eq_of_lt hm])
theorem ring_corn (c : List Nat) : Corn ring ring c := fun i _ h => h.1 rfl
end K17

set_option maxRecDepth 100000
set_option maxHeartbeats 8000000
namespace K17
open PySem PySem.Spec PyProof.Rows L2 Nv LamX
abbrev s_law : Stmt := topS 35
theorem sc_law : FnScope ["script", "pantry", "turn", "many", "right", "up", "must", "corners", "each", "due", "sheet", "other", "great", "heard"] ["script"] (defScope s_law) := ⟨rfl, rfl, rfl, by decide +kernel, rfl, by decide +kernel, by decide +kernel⟩
theorem Tabs.kp {TT : List (Addr × Str)} {L l : Addr} {cs : List Int} {t : Nat} {H H' : Hp} (tb : Tabs TT H) (lan : Lan H L l cs t) (k : Keep L H H') : Tabs TT H' := fun p hp => by
  obtain ⟨ps, h1, h2, h3⟩ := tb p hp
  obtain ⟨_, _, e2, _⟩ := lan.ex
  refine ⟨ps, k _ _ (fun z => ?_) h1, h2, fun pos cv hcv => ?_⟩
  · rw [z, e2] at h1
    cases h1
  · obtain ⟨c0, e1, e3⟩ := h3 pos cv hcv
    refine ⟨c0, e1, k _ _ (fun z => ?_) e3⟩
    rw [z, e2] at e3
    unfold CodeO at e3
    cases e3
/-- between two turns -/
def Turn (a L l : Addr) (cs : List Int) (TT : List (Addr × Str)) (i : Nat) (σ : L2.St) (H : Hp) : Prop :=
  ∃ v2 v3 v4 v5 v6 v7 v8 v9 v10 v11 v12 v13 : Option V, σ = [some (.ref a), some (.ref L), v2, v3, v4, v5, v6, v7, v8, v9, v10, v11, v12, v13] ∧ Lan H L l cs (100 * i) ∧ Tabs TT H
def spLaw (K : PySem.W.Frag) (TT : List (Addr × Str)) : Sp := fun vs H Q _ => ∃ (a : Addr) (ns : List Int), vs = [.ref a] ∧ SqL K H a (ns.map V.int) ∧ ns.length ≤ 63 ∧ Tabs TT H ∧ ∀ H', Q (.bl true) H'
theorem repl_one (n : Nat) (m : Nat) : (List.replicate n [V.int (m : Int)]).flatten = iV (List.replicate n m) := by
  induction n with
  | zero => rfl
  | succ n ih =>
    rw [List.replicate_succ, List.flatten_cons, ih, List.replicate_succ]
    rfl
/-- what is kept of a heap but L -/
theorem good_kx {H H' : Hp} {L p : Addr} {ns : List Nat} (k : KX L H H') (n : p ≠ L) (e : H p = some (.lst (iV ns))) : H' p = some (.lst (iV ns)) := k _ _ n e fun ps z => by cases z
section
variable {P : Program} {w : World} {K : PySem.W.Frag} {mg : Str → Option Value} {base : Heap} {tk : Tok} {CS CB CF CT CM fE : Addr}
theorem ok_law {f fP fS fD fM fG fH fR fI fB fF c PT : Addr} {fd dP dS dD dM dG dH dR dI dB dF dE : FuncData} {TT : List (Addr × Str)} (F : Fun K "law" "law" s_law f fd)
    (D__law_pantry : Df K mg "_law_pantry" s__law_pantry ["script"] fP dP) (D__law_shelf : Df K mg "_law_shelf" s__law_shelf ["pantry", "many"] fS dS) (D__law_dealt : Df K mg "_law_dealt" s__law_dealt ["pantry", "many"] fD dD)
    (D__law_must : Df K mg "_law_must" s__law_must ["right", "up"] fM dM) (D__law_hangs : Df K mg "_law_hangs" s__law_hangs ["right", "up"] fG dG) (D__law_heard : Df K mg "_law_heard" s__law_heard ["ask"] fH dH)
    (D__law_rows_right : Df K mg "_law_rows_right" s__law_rows_right ["pantry", "right", "up", "corners"] fR dR) (G__law_rows_right : FnOk P w K mg base CX0 8 fR dR ["pantry", "right", "up", "corners"] (spRows TT))
    (M_Sheet : Mk K CS fI) (G_Sheet_init : FnOk P w K mg base (L2.CX P w) 4 fI dI ["self", "right", "up", "corners"] (spInit17 CS CB CF)) (B_Sheet_init : Binds K dI ["self", "right", "up", "corners"] [])
    (KB_Sheet_corners_up_right : KBn K dI ["self", "right", "up", "corners"] 1 ["corners", "up", "right"] kwS kwS)
    (G_Sheet_eq : FnOk P w K mg base CX0 1 fE dE ["self", "other"] (spEqS K CS)) (B_Sheet_eq : Binds K dE ["self", "other"] [])
    (E_BadSheet : ErrC K mg "BadSheet" CB fB dB "BadSheet.__init__" s_BadSheet_init ["self", "part"]) (E_Misfit : ErrC K mg "Misfit" CF fF dF "Misfit.__init__" s_Misfit_init ["self", "part"]) (T : Txt K mg tk CS CB CF CT CM fE) (N : InC K CS) (hc : fd.code = .ref c) (TB : TabB base mg c PT)
    (hmT : (PT, (("law" : Str) ++ ".<locals>.") ++ "<lambda>") ∈ TT) (hu : ∀ p ∈ TT, p.1 = PT → p.2 = (("law" : Str) ++ ".<locals>.") ++ "<lambda>") : FnG P w K mg base 9 f fd ["script"] (spLaw K TT) := by
  have G__law_pantry : FnOk P w K mg base CX0 1 fP dP ["script"] (spLantern K) := ok_script D__law_pantry.F T
  have G__law_shelf : FnOk P w K mg base CX0 1 fS dS ["pantry", "many"] spFlick := ok_draw D__law_shelf.F T
  have G__law_dealt : FnOk P w K mg base CX0 2 fD dD ["pantry", "many"] spDealt := ok_dealt D__law_dealt.F D__law_shelf T
  have G__law_must : FnOk P w K mg base CX0 1 fM dM ["right", "up"] spMust := ok_must D__law_must.F T
  have G__law_hangs : FnOk P w K mg base CX0 1 fG dG ["right", "up"] spHangs := ok_hangs D__law_hangs.F T
  refine FnG.ofC F hc sc_law (fun vs H Q E h => ?_) (fun A outer s H vs Q E hG hr h => ?_)
  · obtain ⟨a, ns, rfl, _⟩ := h
    rfl
  · obtain ⟨a, ns, rfl, hS, hlen, tb, q⟩ := h
    have big : sizeLine = 16777216 := by decide
    have hU : (A.deeper (envOfC "law" (defScope s_law) s.heap.objs.size f (.ref c))).units + 70 < cLine := by have := hr.un; omega
    refine ⟨_, (pss_cons (Nv.ps_setN (i := 1) sc_law.nd rfl (by first | exact Or.inl rfl | exact Or.inr rfl) (pe_call G__law_pantry (hr.mono (by decide)) (by rfl) D__law_pantry.m D__law_pantry.F.kp D__law_pantry.b .nil pass0 (pa_cons (pv 0) pa_nil)))
(pss_cons (ps_for PassesOwn.never rfl (pi_range1 (by rfl) T.n_range (pa_cons pe_int pa_nil)) (Nv.pg_nameN (i := 2) sc_law.nd rfl (by first | exact Or.inl rfl | exact Or.inr rfl))
(pss_cons (Nv.ps_setN (i := 3) sc_law.nd rfl (by first | exact Or.inl rfl | exact Or.inr rfl) (pe_op op_add pe_int (pe_call G__law_shelf (hr.mono (by decide)) (by rfl) D__law_shelf.m D__law_shelf.F.kp D__law_shelf.b .nil pass0 (pa_cons (pv 1) (pa_cons pe_int pa_nil)))))
(pss_cons (ps_asg (Nv.pe_tupN (pa_cons (pe_call G__law_dealt (hr.mono (by decide)) (by rfl) D__law_dealt.m D__law_dealt.F.kp D__law_dealt.b .nil pass0 (pa_cons (pv 1) (pa_cons (pv 3) pa_nil))) (pa_cons (pe_call G__law_dealt (hr.mono (by decide)) (by rfl) D__law_dealt.m D__law_dealt.F.kp D__law_dealt.b .nil pass0 (pa_cons (pv 1) (pa_cons (pv 3) pa_nil))) pa_nil))) (pg_tup (by rfl) (pgs_cons (Nv.pg_nameN (i := 4) sc_law.nd rfl (by first | exact Or.inl rfl | exact Or.inr rfl)) (pgs_cons (Nv.pg_nameN (i := 5) sc_law.nd rfl (by first | exact Or.inl rfl | exact Or.inr rfl)) pgs_nil))))
(pss_cons (Nv.ps_setN (i := 6) sc_law.nd rfl (by first | exact Or.inl rfl | exact Or.inr rfl) (pe_call G__law_must (hr.mono (by decide)) (by rfl) D__law_must.m D__law_must.F.kp D__law_must.b .nil pass0 (pa_cons (pv 4) (pa_cons (pv 5) pa_nil))))
(pss_cons (Nv.ps_setN (i := 7) sc_law.nd rfl (by first | exact Or.inl rfl | exact Or.inr rfl) (pe_lc (own := [(("each" : Str), 8)]) (g := gName 8) (by rfl) sc_law.nd (pi_range1 (by rfl) T.n_range (pa_cons (pv 3) pa_nil)) (blkOk_by (N := ["script", "pantry", "turn", "many", "right", "up", "must", "corners", "each", "due", "sheet", "other", "great", "heard"]) (sc := defScope s_law) (by decide +kernel)) (fun _ _ _ _ _ => pg_name (i := 8) sc_law.nd rfl (by first | exact Or.inl rfl | exact Or.inr rfl)) (fun _ _ _ _ _ => pts_nil) (fun _ _ _ _ _ => (pe_ifExp (pt_cmpR op_eq (pe_call G__law_shelf (hr.mono (by decide)) (by rfl) D__law_shelf.m D__law_shelf.F.kp D__law_shelf.b .nil pass0 (pa_cons (pv 1) (pa_cons pe_int pa_nil))) pe_int (nomark _)) (pe_call G__law_shelf (hr.mono (by decide)) (by rfl) D__law_shelf.m D__law_shelf.F.kp D__law_shelf.b .nil pass0 (pa_cons (pv 1) (pa_cons pe_int pa_nil))) (pe_callTy call_int1 (by rfl) T.n_int (by decide +kernel) (pa_cons (pe_cmpR (Nv.op_inK (K := K) rfl) (pv 8) (pv 6) (by rfl)) pa_nil))))))
(pss_cons (Nv.ps_setN (i := 9) sc_law.nd rfl (by first | exact Or.inl rfl | exact Or.inr rfl) (pe_ifExp (pt_val (pe_call G__law_hangs (hr.mono (by decide)) (by rfl) D__law_hangs.m D__law_hangs.F.kp D__law_hangs.b .nil pass0 (pa_cons (pv 4) (pa_cons (pv 5) pa_nil)))) pe_non (Nv.pe_tupN (pa_cons pe_str (pa_cons pe_str pa_nil)))))
(pss_cons (Nv.ps_setN (i := 9) sc_law.nd rfl (by first | exact Or.inl rfl | exact Or.inr rfl) (pe_ifExp (PW.pt (pw_and (pt_cmpR op_isN (pv 9) pe_non (nomark _)) (pw_and1 (pt_cmpR (op_neD hr.units) (pe_lc (own := [(("each" : Str), 8)]) (g := gName 8) (by rfl) sc_law.nd (pi_list (pv 6)) (blkOk_by (N := ["script", "pantry", "turn", "many", "right", "up", "must", "corners", "each", "due", "sheet", "other", "great", "heard"]) (sc := defScope s_law) (by decide +kernel)) (fun _ _ _ _ _ => pg_name (i := 8) sc_law.nd rfl (by first | exact Or.inl rfl | exact Or.inr rfl)) (fun _ _ _ _ _ => (pts_one (pt_cmpR op_eq (pe_ix (Nv.ix_listK (K := K) rfl) (pv 7) (pv 8) (fun _ _ => rfl)) pe_int (nomark _)))) (fun _ _ _ _ _ => (pv 8))) (Nv.pe_lstN pa_nil) (nomark _))))) (Nv.pe_tupN (pa_cons pe_str (pa_cons pe_str pa_nil))) (pv 9)))
(pss_cons (ps_if (PW.pt (pw_or (pt_cmpR (op_neD hr.units) (heard17 (k := 5) (i := 0) D__law_heard (by rfl) T E_BadSheet E_Misfit TB rfl hmT hu (hr.mono (by decide)) (lamD_by (N := ["script", "pantry", "turn", "many", "right", "up", "must", "corners", "each", "due", "sheet", "other", "great", "heard"]) (sc := defScope s_law) (by decide +kernel)) (.inl rfl) rfl (lamB0 rfl fun _ _ _ _ _ _ => rfl) (fun A outer s H E f c hr2 => (pe_make M_Sheet G_Sheet_init (hr2.mono (by decide)) (by rfl) T.g_Sheet B_Sheet_init .nil (passes_call (takes_of rfl rfl rfl rfl) fun _ _ _ _ h => h) (pa_cons (pv 4) (pa_cons (pv 5) (pa_cons (pv 7) pa_nil)))))) (pv 9) (nomark _)) (pw_or1 (pt_cmpR (op_neD hr.units) (heard17 (k := 5) (i := 0) D__law_heard (by rfl) T E_BadSheet E_Misfit TB rfl hmT hu (hr.mono (by decide)) (lamD_by (N := ["script", "pantry", "turn", "many", "right", "up", "must", "corners", "each", "due", "sheet", "other", "great", "heard"]) (sc := defScope s_law) (by decide +kernel)) (.inr ⟨_, _, rfl⟩) rfl (lamB1 (fun z => by cases z) rfl fun _ _ _ _ _ _ _ _ => ⟨_, rfl, rfl⟩) (fun A outer s H E f c hr2 => (L2.pe_makeK0 M_Sheet G_Sheet_init (hr2.mono (by decide)) (by rfl) T.g_Sheet KB_Sheet_corners_up_right (passes_call (takes_of rfl rfl rfl rfl) fun _ _ _ _ h => h) (pk_cons (pe_callTy (cr_tupK (K := K) rfl) (by rfl) T.n_tuple (by decide +kernel) (pa_cons (pv 7) pa_nil)) (pk_cons (pe_callTy (cr_tupK (K := K) rfl) (by rfl) T.n_tuple (by decide +kernel) (pa_cons (pv 5) pa_nil)) (pk_cons (pe_callTy (cr_tupK (K := K) rfl) (by rfl) T.n_tuple (by decide +kernel) (pa_cons (pv 4) pa_nil)) pk_nil)))))) (pv 9) (nomark _)))))
(pss_one (ps_ret pe_bl))
pss_nil)
(pss_cons (ps_if (pt_not (pt_val (pe_call G__law_rows_right (hr.mono (by decide)) (by rfl) D__law_rows_right.m D__law_rows_right.F.kp D__law_rows_right.b .nil pass0 (pa_cons (pv 1) (pa_cons (pv 4) (pa_cons (pv 5) (pa_cons (pv 7) pa_nil)))))))
(pss_one (ps_ret pe_bl))
pss_nil)
(pss_one (ps_if (pt_cmpR op_isN (pv 9) pe_non (nomark _))
(pss_cons (Nv.ps_setN (i := 10) sc_law.nd rfl (by first | exact Or.inl rfl | exact Or.inr rfl) (pe_make M_Sheet G_Sheet_init (hr.mono (by decide)) (by rfl) T.g_Sheet B_Sheet_init .nil (passes_call L2.takes0 fun _ _ _ _ h => h) (pa_cons (pv 4) (pa_cons (pv 5) (pa_cons (pv 7) pa_nil)))))
(pss_cons (ps_if (pt_cmpR op_ne (pe_callB (Nv.cr_repr hG hU) (by rfl) T.n_repr (by decide +kernel) (pa_cons (Nv.pe_lstN (pa_cons (pe_fld (pv 10) (by rfl)) (pa_cons (pe_fld (pv 10) (by rfl)) (pa_cons (pe_fld (pv 10) (by rfl)) (pa_cons (pe_fld (pv 10) (by rfl)) pa_nil))))) pa_nil)) (pe_callB (Nv.cr_repr hG hU) (by rfl) T.n_repr (by decide +kernel) (pa_cons (Nv.pe_lstN (pa_cons (pe_callTy Nv.cr_tupN (by rfl) T.n_tuple (by decide +kernel) (pa_cons (pv 4) pa_nil)) (pa_cons (pe_callTy Nv.cr_tupN (by rfl) T.n_tuple (by decide +kernel) (pa_cons (pv 5) pa_nil)) (pa_cons (pe_callTy Nv.cr_tupN (by rfl) T.n_tuple (by decide +kernel) (pa_cons (pv 7) pa_nil)) (pa_cons (pv 3) pa_nil))))) pa_nil)) (nomark _))
(pss_one (ps_ret pe_bl))
pss_nil)
(pss_cons (Nv.ps_setN (i := 11) sc_law.nd rfl (by first | exact Or.inl rfl | exact Or.inr rfl) (pe_make M_Sheet G_Sheet_init (hr.mono (by decide)) (by rfl) T.g_Sheet B_Sheet_init .nil (passes_call L2.takes0 fun _ _ _ _ h => h) (pa_cons (pe_callTy Nv.cr_tupN (by rfl) T.n_tuple (by decide +kernel) (pa_cons (pv 4) pa_nil)) (pa_cons (pv 5) (pa_cons (pe_op op_rep (Nv.pe_lstN (pa_cons pe_int pa_nil)) (pv 3)) pa_nil)))))
(pss_one (ps_if (PW.pt (pw_or (pt_cmpR op_ne (pe_cmpR (Nv.op_eqOwn T.own G_Sheet_eq B_Sheet_eq pass0 (hr.mono (by decide))) (pv 11) (pv 10) (nomark _)) (pe_cmpR (op_eqD hr.units) (pv 7) (pe_op op_rep (Nv.pe_lstN (pa_cons pe_int pa_nil)) (pv 3)) (nomark _)) (nomark _)) (pw_or (pt_cmpR (Nv.op_neOwn T.own G_Sheet_eq B_Sheet_eq pass0 (hr.mono (by decide))) (pv 10) (pe_make M_Sheet G_Sheet_init (hr.mono (by decide)) (by rfl) T.g_Sheet B_Sheet_init .nil (passes_call L2.takes0 fun _ _ _ _ h => h) (pa_cons (pe_callTy call_list_of (by rfl) T.n_list (by decide +kernel) (pa_cons (pv 4) pa_nil)) (pa_cons (pe_callTy Nv.cr_tupN (by rfl) T.n_tuple (by decide +kernel) (pa_cons (pv 5) pa_nil)) (pa_cons (pe_callTy call_list_of (by rfl) T.n_list (by decide +kernel) (pa_cons (pv 7) pa_nil)) pa_nil)))) (nomark _)) (pw_or1 (pt_cmpR (Nv.op_eqOwn T.own G_Sheet_eq B_Sheet_eq pass0 (hr.mono (by decide))) (pv 10) (Nv.pe_tupN (pa_cons (pe_callTy Nv.cr_tupN (by rfl) T.n_tuple (by decide +kernel) (pa_cons (pv 4) pa_nil)) (pa_cons (pe_callTy Nv.cr_tupN (by rfl) T.n_tuple (by decide +kernel) (pa_cons (pv 5) pa_nil)) (pa_cons (pe_callTy Nv.cr_tupN (by rfl) T.n_tuple (by decide +kernel) (pa_cons (pv 7) pa_nil)) pa_nil)))) (nomark _))))))
(pss_one (ps_ret pe_bl))
pss_nil)))))
pss_nil)))))))))))
(pss_cons (Nv.ps_setN (i := 12) sc_law.nd rfl (by first | exact Or.inl rfl | exact Or.inr rfl) (pe_lc (own := [(("each" : Str), 8)]) (g := gName 8) (by rfl) sc_law.nd (pi_range1 (by rfl) T.n_range (pa_cons pe_int pa_nil)) (blkOk_by (N := ["script", "pantry", "turn", "many", "right", "up", "must", "corners", "each", "due", "sheet", "other", "great", "heard"]) (sc := defScope s_law) (by decide +kernel)) (fun _ _ _ _ _ => pg_name (i := 8) sc_law.nd rfl (by first | exact Or.inl rfl | exact Or.inr rfl)) (fun _ _ _ _ _ => pts_nil) (fun _ _ _ _ _ => (pe_op op_modN (pe_callTy call_int1 (by rfl) T.n_int (by decide +kernel) (pa_cons (pe_op op_add (pv 8) pe_int) pa_nil)) pe_int))))
(pss_cons (Nv.ps_setN (i := 13) sc_law.nd rfl (by first | exact Or.inl rfl | exact Or.inr rfl) (Nv.pe_lstN (pa_cons (heard17 (k := 5) (i := 0) D__law_heard (by rfl) T E_BadSheet E_Misfit TB rfl hmT hu (hr.mono (by decide)) (lamD_by (N := ["script", "pantry", "turn", "many", "right", "up", "must", "corners", "each", "due", "sheet", "other", "great", "heard"]) (sc := defScope s_law) (by decide +kernel)) (.inl rfl) rfl (lamB0 rfl fun _ _ _ _ _ _ => rfl) (fun A outer s H E f c hr2 => (pe_make M_Sheet G_Sheet_init (hr2.mono (by decide)) (by rfl) T.g_Sheet B_Sheet_init .nil (passes_call (takes_of rfl rfl rfl rfl) fun _ _ _ _ h => h) (pa_cons (pv 12) (pa_cons (pv 12) (pa_cons (pe_op op_rep (Nv.pe_lstN (pa_cons pe_int pa_nil)) pe_int) pa_nil)))))) (pa_cons (heard17 (k := 5) (i := 0) D__law_heard (by rfl) T E_BadSheet E_Misfit TB rfl hmT hu (hr.mono (by decide)) (lamD_by (N := ["script", "pantry", "turn", "many", "right", "up", "must", "corners", "each", "due", "sheet", "other", "great", "heard"]) (sc := defScope s_law) (by decide +kernel)) (.inr ⟨_, _, rfl⟩) rfl (lamB1 (fun z => by cases z) rfl fun _ _ _ _ _ _ _ _ => ⟨_, rfl, rfl⟩) (fun A outer s H E f c hr2 => (pe_make M_Sheet G_Sheet_init (hr2.mono (by decide)) (by rfl) T.g_Sheet B_Sheet_init .nil (passes_call (takes_of rfl rfl rfl rfl) fun _ _ _ _ h => h) (pa_cons (pe_op Nv.op_catN (pv 12) (Nv.pe_lstN (pa_cons pe_int pa_nil))) (pa_cons (pe_op Nv.op_catN (pv 12) (Nv.pe_lstN (pa_cons pe_int pa_nil))) (pa_cons (pe_op op_rep (Nv.pe_lstN (pa_cons pe_int pa_nil)) pe_int) pa_nil)))))) pa_nil))))
(pss_one (ps_ret (pe_cmpR (op_eqD hr.units) (pv 13) (Nv.pe_lstN (pa_cons pe_non (pa_cons (Nv.pe_tupN (pa_cons pe_str (pa_cons pe_str pa_nil))) pa_nil))) (nomark _)))))))), ?_⟩
    refine ⟨_, rfl, a, ns, rfl, hS, hlen, fun H0 L l cs s0 nL nl lan0 => fun σ0 c0 => ?_⟩
    obtain rfl : σ0 = [some (.ref a), some (.ref L), none, none, none, none, none, none, none, none, none, none, none, none] := c0
    refine ⟨5, rfl, by decide, by decide, for_range (lo := 0) (n := 5) (fun i σ H' => Turn a L l cs TT i σ H') ⟨_, _, _, _, _, _, _, _, _, _, _, _, rfl, lan0, tb.ext s0⟩ ?_ ?_⟩
    · rintro i σ H1 hi ⟨v2, v3, v4, v5, v6, v7, v8, v9, v10, v11, v12, v13, rfl, lan1, tb1⟩
      refine fun σ1 c1 => ?_
      obtain rfl : σ1 = [some (.ref a), some (.ref L), some (.int (0 + (i : Int))), v3, v4, v5, v6, v7, v8, v9, v10, v11, v12, v13] := c1
      -- many
      refine ⟨_, rfl, L, 7, 100 * i, l, cs, rfl, by decide, log_small (by decide) (by decide), lan1, by omega, fun H2 r2 k2 lan2 r20 r21 => ⟨_, _, rfl, rfl, fun σ2 c2 => ?_⟩⟩
      obtain ⟨n, rfl⟩ : ∃ n : Nat, r2 = ((n : Nat) : Int) := ⟨r2.toNat, by omega⟩
      obtain ⟨m, hm⟩ : ∃ m : Nat, m = n + 1 := ⟨_, rfl⟩
      have em : (1 : Int) + (n : Int) = (m : Int) := by omega
      have c2 : σ2 = [some (.ref a), some (.ref L), some (.int (0 + (i : Int))), some (.int (m : Int)), v4, v5, v6, v7, v8, v9, v10, v11, v12, v13] := by rw [← em]; exact c2
      obtain rfl : σ2 = [some (.ref a), some (.ref L), some (.int (0 + (i : Int))), some (.int (m : Int)), v4, v5, v6, v7, v8, v9, v10, v11, v12, v13] := c2
      have m1 : 1 ≤ m := by omega
      have m7 : m ≤ 7 := by omega
      have tb2 := Tabs.kp tb1 lan1 k2
      -- right, up
      refine ⟨_, rfl, _, rfl, L, m, 100 * i + 1, l, cs, rfl, m1, by omega, lan2, by omega, fun H3 p r k3 lan3 np pL ep or_ lr => ?_⟩
      refine ⟨_, rfl, _, rfl, L, m, 100 * i + 1 + m, l, cs, rfl, m1, by omega, lan3, by omega, fun H4 p2 u k4 lan4 np2 p2L ep2 ou lu => ?_⟩
      refine ⟨by show 2 ≤ sizeLine; decide, fun t0 H5 nt et st => ⟨t0, _, rfl, SqT.of et, rfl, _, _, rfl, fun σ3 c3 => ⟨_, _, rfl, fun σ4 c4 => ⟨rfl, ?_⟩⟩⟩⟩
      subst c3
      obtain rfl : σ4 = [some (.ref a), some (.ref L), some (.int (0 + (i : Int))), some (.int (m : Int)), some (.ref p), some (.ref p2), v6, v7, v8, v9, v10, v11, v12, v13] := c4
      have ep5 := st _ _ (k4 _ _ pL ep)
      have ep25 := st _ _ ep2
      have tb5 := (Tabs.kp (Tabs.kp tb2 lan2 k3) lan3 k4).ext st
      have lan5 := Lan.same lan4 st
      clear et nt st ep ep2 np2 np k2 k3 k4 lan1 lan2 lan3 lan4 tb1 tb2
      -- must
      refine ⟨_, rfl, _, rfl, p, p2, r, u, rfl, ep5, ep25, or_, ou, by omega, by omega, fun pm H6 s6 npm epm => fun σ5 c5 => ?_⟩
      obtain rfl : σ5 = [some (.ref a), some (.ref L), some (.int (0 + (i : Int))), some (.int (m : Int)), some (.ref p), some (.ref p2), some (.ref pm), v7, v8, v9, v10, v11, v12, v13] := c5
      have lan6 := Lan.same lan5 s6
      have tb6 := tb5.ext s6
      have ep6 := s6 _ _ ep5
      have ep26 := s6 _ _ ep25
      have pmL := (Lan.apart lan5 npm).1
      clear lan5 tb5 ep5 ep25 s6 npm
      -- corners
      refine ⟨_, rfl, (m : Int), rfl, by omega, by omega, fun D nD => ?_⟩
      obtain ⟨DL, Dl⟩ := Lan.apart lan6 nD
      refine ⟨fun j m' H' => m' = m - j ∧ j ≤ m ∧ ∃ co : List Nat, co.length = j ∧ H' D = some (.lst (iV co)) ∧ (∀ x ∈ co, x ≤ 1) ∧ Keep L H6 H' ∧ Lan H' L l cs (100 * i + 1 + m + m + 2 * j),
        ⟨m, rfl, Nat.zero_le _, [], rfl, upd_same, (fun x hx => by cases hx), Keep.new nD, Lan.same lan6 (Same.neu nD)⟩, ?_⟩
      rintro j m' H7 ⟨rfl, hj, co, lco, eD, co1, kp7, lan7⟩
      by_cases hlt : j < m
      · refine .inr ⟨by show j < (m : Int).toNat; omega, fun H' => ∃ co : List Nat, co.length = j + 1 ∧ H' D = some (.lst (iV co)) ∧ (∀ x ∈ co, x ≤ 1) ∧ Keep L H6 H' ∧ Lan H' L l cs (100 * i + 1 + m + m + 2 * (j + 1)),
          fun H' ⟨co', h1, h2, h3, h4, h5⟩ => ⟨m - (j + 1), by omega, rfl, hlt, co', h1, h2, h3, h4, h5⟩, fun x H' y => ?_⟩
        obtain ⟨rfl, rfl⟩ := y
        have next : ∀ (H9 : Hp) (v : Int), Keep L H' H9 → Lan H9 L l cs (100 * i + 1 + m + m + 2 * (j + 1)) → 0 ≤ v → v ≤ 1 → ∃ acc, H9 D = some (.lst acc) ∧ acc.length < sizeLine ∧
            ∃ co : List Nat, co.length = j + 1 ∧ (upd H9 D (.lst (acc ++ [V.int v]))) D = some (.lst (iV co)) ∧ (∀ x ∈ co, x ≤ 1) ∧ Keep L H6 (upd H9 D (.lst (acc ++ [V.int v]))) ∧ Lan (upd H9 D (.lst (acc ++ [V.int v]))) L l cs (100 * i + 1 + m + m + 2 * (j + 1)) := fun H9 v k9 lan9 v0 v1 => by
          obtain ⟨x, rfl⟩ : ∃ x : Nat, v = (x : Int) := ⟨v.toNat, by omega⟩
          refine ⟨iV co, k9 _ _ DL eD, by rw [iV_len]; omega, co ++ [x], by rw [List.length_append, lco]; rfl, ?_, fun y hy => ?_, fun b o nb e => ?_, Lan.upd lan9 DL Dl⟩
          · rw [upd_same]
            unfold iV
            rw [List.map_append]
            rfl
          · rcases List.mem_append.mp hy with z | z
            · exact co1 y z
            · rw [List.mem_singleton.mp z]
              omega
          · rw [upd_ne (ne_of_none e nD)]
            exact k9 _ _ nb (kp7 _ _ nb e)
        refine ⟨rfl, ?_⟩
        unfold tYes
        dsimp only
        rw [if_pos rfl]
        refine ⟨_, rfl, L, 3, _, l, cs, rfl, by decide, log_small (by decide) (by decide), lan7, by omega, fun H8 r8 k8 lan8 r80 r81 => ⟨rfl, _, rfl, ifb (fun z => ?_) (fun z => ?_)⟩⟩
        · exact ⟨_, rfl, L, 2, _, l, cs, rfl, by decide, log_small (by decide) (by decide), lan8, by omega, fun H9 r9 k9 lan9 r90 r91 => next H9 r9 (k8.trans k9) lan9 r90 (by omega)⟩
        · refine ⟨_, rfl, _, rfl, pm, _, rfl, .inl (SqL.of (k8 _ _ pmL (kp7 _ _ pmL epm))), rfl, flat_iV _, .inr ⟨_, rfl, next H8 _ k8 (Lan.more lan8 (by omega)) ?_ ?_⟩⟩
          · split <;> omega
          · split <;> omega
      · obtain rfl : j = m := by omega
        refine .inl ⟨by show (j : Int).toNat ≤ j; omega, fun σ6 c6 => ?_⟩
        obtain rfl : σ6 = [some (.ref a), some (.ref L), some (.int (0 + (i : Int))), some (.int (j : Int)), some (.ref p), some (.ref p2), some (.ref pm), some (.ref D), v8, v9, v10, v11, v12, v13] := c6
        have pL2 := p2L
        have ep7 := kp7 _ _ pL ep6
        have ep27 := kp7 _ _ p2L ep26
        have epm7 := kp7 _ _ pmL epm
        have tb7 := Tabs.kp tb6 lan6 kp7
        clear kp7 lan6 tb6 ep6 ep26 epm
        have lu' : u.length = r.length := by omega
        have lc' : co.length = r.length := by omega
        -- due
        refine nxI (pSeq (pAsg (due1 rfl rfl ep7 ep27 or_ ou (by omega) (by omega) fun v1 H8 s8 d8 => fun σ7 c7 => ?_)))
        obtain rfl : σ7 = [some (.ref a), some (.ref L), some (.int (0 + (i : Int))), some (.int (j : Int)), some (.ref p), some (.ref p2), some (.ref pm), some (.ref D), v8, some v1, v10, v11, v12, v13] := c7
        refine nxI (pSeq (pAsg (due2 (K := K) (s8 _ _ epm7) (s8 _ _ eD) or_ ou (by omega) lc' (by omega) d8 fun w9 H9 o r' u' c' s9 out d9 => fun σ8 c8 => ?_)))
        obtain rfl : σ8 = [some (.ref a), some (.ref L), some (.int (0 + (i : Int))), some (.int (j : Int)), some (.ref p), some (.ref p2), some (.ref pm), some (.ref D), v8, some w9, v10, v11, v12, v13] := c8
        have s79 := s8.trans s9
        have ep9 := s79 _ _ ep7
        have ep29 := s79 _ _ ep27
        have eD9 := s79 _ _ eD
        have lan9 := Lan.same lan7 s79
        have tb9 := tb7.ext s79
        clear s8 s9 s79 d8 ep7 ep27 epm7 eD lan7 tb7
        -- what is heard
        refine nxI (pSeqIf (pOr (pTestOp (hearO tb9 (fun H1 R e1 kk => ⟨_, rfl, _, rfl, _, rfl, kk H1 _ _ _ (Same.refl H1) (out.ends or_ ou (by omega) lu' lc' co1 (good_lst (e1 _ _ ep9 fun ps z => by cases z)) (good_lst (e1 _ _ ep29 fun ps z => by cases z)) (good_lst (e1 _ _ eD9 fun ps z => by cases z)))⟩) fun vA HA eA tA dA => ?_))))
        refine ⟨_, rfl, ne_due (K := K) out dA (d9.ext eA) ⟨_, rfl, iteF (pTestOp ?_)⟩⟩
        have epA := eA _ _ ep9 fun ps z => by cases z
        have ep2A := eA _ _ ep29 fun ps z => by cases z
        have eDA := eA _ _ eD9 fun ps z => by cases z
        refine hearK tA (fun H1 R e1 kk => pCons (tup_of (K := K) rfl (good_lst (e1 _ _ eDA fun ps z => by cases z)) fun t1 Hb sb eb => pCons (tup_of (K := K) rfl (good_lst (sb _ _ (e1 _ _ ep2A fun ps z => by cases z))) fun t2 Hc sc ec => pCons (tup_of (K := K) rfl (good_lst (sc _ _ (sb _ _ (e1 _ _ epA fun ps z => by cases z)))) fun t3 Hd sd ed =>
          kk Hd (.ref t3) (.ref t2) (.ref t1) (sb.trans (sc.trans sd)) (out.ends or_ ou (by omega) lu' lc' co1 (good_tup ed) (good_tup (sd _ _ ec)) (good_tup (sd _ _ (sc _ _ eb)))))))) fun vB HB eB tB dB => ?_
        refine ⟨_, rfl, ne_due (K := K) out dB ((d9.ext eA).ext eB) ⟨_, rfl, iteF (nxt ?_)⟩⟩
        have epB := eB _ _ epA fun ps z => by cases z
        have ep2B := eB _ _ ep2A fun ps z => by cases z
        have eDB := eB _ _ eDA fun ps z => by cases z
        have lanB := Lan.ext (Lan.ext lan9 eA) eB
        have dB9 := (d9.ext eA).ext eB
        clear epA ep2A eDA ep9 ep29 eD9 lan9 d9 eA eB dA dB tb9 tA
        -- rows that are bent
        refine pSeqIf (pNot (pB ?_))
        refine ⟨_, rfl, _, rfl, _, rfl, _, rfl, L, p, p2, D, r, u, co, _, l, cs, rfl, epB, ep2B, eDB, pL, p2L, DL, or_, ou, lu', lc', by omega, lanB, by omega, tB, fun HC kC lanC tC => ⟨_, rfl, iteF (nxt ?_)⟩⟩
        have epC := kC _ _ pL epB fun ps z => by cases z
        have ep2C := kC _ _ p2L ep2B fun ps z => by cases z
        have eDC := kC _ _ DL eDB fun ps z => by cases z
        have dC := dB9.kx lanB kC
        clear epB ep2B eDB lanB dB9 tB kC
        -- the sheet itself
        refine pIfS ⟨_, rfl, rfl, _, rfl, ?_⟩
        cases out with
        | apart no =>
          obtain ⟨pd, rfl, _⟩ := dC
          exact iteF ⟨_, _, _, _, _, _, _, _, _, _, _, _, rfl, Lan.more lanC (by omega), tC⟩
        | free ya no =>
          obtain ⟨pd, rfl, _⟩ := dC
          exact iteF ⟨_, _, _, _, _, _, _, _, _, _, _, _, rfl, Lan.more lanC (by omega), tC⟩
        | ok ya yc =>
          cases (show w9 = .non from dC)
          refine iteT ?_
          refine pSeq (pAsg (made (fun R kk => ⟨_, rfl, _, rfl, _, rfl, kk HC _ _ _ (Same.refl HC) (.ok (good_lst epC) or_ (by omega) (good_lst ep2C) ou lu' (good_lst eDC) lc' co1 ya yc)⟩) fun ps HD sD shD => fun σ9 c9 => ?_))
          obtain rfl : σ9 = [some (.ref a), some (.ref L), some (.int (0 + (i : Int))), some (.int (j : Int)), some (.ref p), some (.ref p2), some (.ref pm), some (.ref D), v8, some .non, some (.ref ps), v11, v12, v13] := c9
          obtain rfl : r.length = j := lr
          have sCD := sD
          have epD := sD _ _ epC
          have ep2D := sD _ _ ep2C
          have eDD := sD _ _ eDC
          have lanD := Lan.same lanC sD
          have tD := tC.ext sD
          have r100 : ∀ m ∈ r, m < 100 := fun m hm => by have := or_.lt m hm; omega
          have u100 : ∀ m ∈ u, m < 100 := fun m hm => by have := ou.lt m hm; omega
          have c100 : ∀ m ∈ co, m < 100 := fun m hm => by have := co1 m hm; omega
          have shw : Shows (dSheet r u co r.length) := shows_sheet r100 u100 c100 (by omega) (by omega) (by omega) (by omega)
          clear sD epC ep2C eDC lanC tC dC
          -- repr
          refine nxI (pSeqIf (pTestOp (pCBl (flds T rfl shD fun l1 HE sE ⟨vsE, eE, aE⟩ => ?_))))
          refine rd_repr1 (K := K) eE aE shw fun z1 hz1 => ?_
          refine pCBl (pCons (tup_of (K := K) rfl (good_lst (sE _ _ epD)) fun t1 Hb sb eb => pCons (tup_of (K := K) rfl (good_lst (sb _ _ (sE _ _ ep2D))) fun t2 Hc sc ec => pCons (tup_of (K := K) rfl (good_lst (sc _ _ (sb _ _ (sE _ _ eDD)))) fun t3 Hd sd ed => ?_))))
          refine ⟨_, rfl, by show 4 ≤ sizeLine; decide, fun l2 HF nF eF sF => ?_⟩
          refine rd_repr1 (K := K) eF (.cons (.tup (SqT.of (sF _ _ (sd _ _ (sc _ _ eb)))) (dp_iV r)) (.cons (.tup (SqT.of (sF _ _ (sd _ _ ec))) (dp_iV u)) (.cons (.tup (SqT.of (sF _ _ ed)) (dp_iV co)) (.cons (.int _) .nil)))) shw fun z2 hz2 => ?_
          refine ⟨rfl, _, rfl, neEq (by rw [hz1, hz2]) (nxt ?_)⟩
          have sDF := (sE.trans (sb.trans (sc.trans sd))).trans sF
          have epF := sDF _ _ epD
          have ep2F := sDF _ _ ep2D
          have eDF := sDF _ _ eDD
          have lanF := Lan.same lanD sDF
          have tF := tD.ext sDF
          have shF := shD.same sDF
          clear sE sb sc sd eb ec ed eE aE eF nF sF sDF epD ep2D eDD lanD tD shD hz1 hz2
          -- the other sheet
          have ones : ∀ x ∈ List.replicate r.length 1, x ≤ 1 := fun x hx => by rw [(List.mem_replicate.mp hx).2]; omega
          have yo : Corn r u (List.replicate r.length 1) := corn_must.mpr fun m hm e => by
            have := (List.mem_replicate.mp (List.mem_of_getElem? e)).2
            omega
          refine pSeq (pAsg (made (r := r) (u := u) (c := List.replicate r.length 1) (fun R kk => pCons (tup_of (K := K) rfl (good_lst epF) fun t1 Hb sb eb => ⟨_, rfl, by show 1 ≤ sizeLine; decide, fun l1 Hc nc ec sc => ⟨_, rfl, l1, _, _, rfl, rfl, ec, by omega, by omega, by show 1 * _ ≤ sizeLine; omega, fun l2 n2 => ?_⟩⟩)) fun po HG sG shG => fun σ10 c10 => ?_))
          · have e2 : (upd Hc l2 (.lst (List.replicate ((r.length : Nat) : Int).toNat [V.int 1]).flatten)) l2 = some (.lst (iV (List.replicate r.length 1))) := by
              rw [upd_same, Int.toNat_natCast]
              exact congrArg (fun z => some (HO.lst z)) (repl_one r.length 1)
            have s2 : Same Hc (upd Hc l2 (.lst (List.replicate ((r.length : Nat) : Int).toNat [V.int 1]).flatten)) := Same.neu n2
            exact kk _ (.ref t1) (.ref p2) (.ref l2) (sb.trans (sc.trans s2)) (.ok (good_tup (s2 _ _ (sc _ _ eb))) or_ (by omega) (good_lst (s2 _ _ (sc _ _ (sb _ _ ep2F)))) ou lu' (good_lst e2) (by rw [List.length_replicate]) ones ya yo)
          obtain rfl : σ10 = [some (.ref a), some (.ref L), some (.int (0 + (i : Int))), some (.int (r.length : Int)), some (.ref p), some (.ref p2), some (.ref pm), some (.ref D), v8, some .non, some (.ref ps), some (.ref po), v12, v13] := c10
          have epG := sG _ _ epF
          have ep2G := sG _ _ ep2F
          have eDG := sG _ _ eDF
          have lanG := Lan.same lanF sG
          have tG := tF.ext sG
          have sh1 := shF.same sG
          clear sG epF ep2F eDF lanF tF shF
          -- sheets beside one another
          refine nxI (pIfS (pOr (pTestOp ?_)))
          refine pOp ⟨_, rfl, _, rfl, eq_sheets T N shG sh1 ?_⟩
          refine ⟨_, rfl, by show 1 ≤ sizeLine; decide, fun l1 Hc nc ec sc => ⟨_, rfl, l1, _, _, rfl, rfl, ec, by omega, by omega, by show 1 * _ ≤ sizeLine; omega, fun l2 n2 => ?_⟩⟩
          have e2 : (upd Hc l2 (.lst (List.replicate ((r.length : Nat) : Int).toNat [V.int 1]).flatten)) l2 = some (.lst (iV (List.replicate r.length 1))) := by
            rw [upd_same, Int.toNat_natCast]
            exact congrArg (fun z => some (HO.lst z)) (repl_one r.length 1)
          have s2 : Same Hc (upd Hc l2 (.lst (List.replicate ((r.length : Nat) : Int).toNat [V.int 1]).flatten)) := Same.neu n2
          generalize upd Hc l2 (.lst (List.replicate ((r.length : Nat) : Int).toNat [V.int 1]).flatten) = HH at s2 e2 ⊢
          have sGH := sc.trans s2
          refine ⟨.list (pI co), .list (pI (List.replicate r.length 1)), .lst (SqL.of (sGH _ _ eDG)) (dp_iV co), .lst (SqL.of e2) (dp_iV _), shaped_listI _, shaped_listI _, ?_⟩
          rw [eqv_listI]
          refine ⟨rfl, _, rfl, neEq ?_ (pOr (pTestOp ?_))⟩
          · exact congrArg V.bl (decide_eq_decide.mpr ⟨fun z => z.2.2.symm, fun z => ⟨rfl, rfl, z.symm⟩⟩)
          have epH := sGH _ _ epG
          have ep2H := sGH _ _ ep2G
          have eDH := sGH _ _ eDG
          have lanH := Lan.same lanG sGH
          have tH := tG.ext sGH
          have shH := sh1.same sGH
          clear sGH s2 e2 epG ep2G eDG lanG tG sh1 shG
          refine ⟨_, rfl, made (r := r) (u := u) (c := co) (fun R kk => pCons (list_of (K := K) rfl epH fun t1 Hb sb eb => pCons (tup_of (K := K) rfl (good_lst (sb _ _ ep2H)) fun t2 Hc sc ec => pCons (list_of (K := K) rfl (sc _ _ (sb _ _ eDH)) fun t3 Hd sd ed =>
            kk Hd (.ref t1) (.ref t2) (.ref t3) (sb.trans (sc.trans sd)) (.ok (good_lst (sd _ _ (sc _ _ eb))) or_ (by omega) (good_tup (sd _ _ ec)) ou lu' (good_lst ed) lc' co1 ya yc))))) fun pn HN sN shN => eq_sheets T N (shH.same sN) shN ⟨false, by simp, iteF (pTestOp ?_)⟩⟩
          refine ⟨_, rfl, pTup (pCons (tup_of (K := K) rfl (good_lst (sN _ _ epH)) fun t1 Hb sb eb => pCons (tup_of (K := K) rfl (good_lst (sb _ _ (sN _ _ ep2H))) fun t2 Hc sc ec => pCons (tup_of (K := K) rfl (good_lst (sc _ _ (sb _ _ (sN _ _ eDH)))) fun t3 Hd sd ed => ?_))))⟩
          have sAll := sN.trans (sb.trans (sc.trans sd))
          exact ⟨by show 3 ≤ sizeLine; decide, fun tt HT nT eT sT => eq_tup T (shH.same (sAll.trans sT)) eT ⟨false, rfl, iteF ⟨_, _, _, _, _, _, _, _, _, _, _, _, rfl, Lan.more (Lan.same lanH (sAll.trans sT)) (by omega), tH.ext (sAll.trans sT)⟩⟩⟩
    · rintro σ H1 ⟨v2, v3, v4, v5, v6, v7, v8, v9, v10, v11, v12, v13, rfl, lan, tb1⟩
      -- the ring
      refine nxI (pSeq (pAsg ?_))
      refine ⟨400, rfl, by decide, by decide, fun D nD => ⟨fun j m' H' => m' = 400 - j ∧ j ≤ 400 ∧ Same H1 H' ∧ H' D = some (.lst (iV (ring.take j))), ⟨400, rfl, Nat.zero_le _, Same.neu nD, upd_same⟩, ?_⟩⟩
      rintro j m' H2 ⟨rfl, hj, s2, e2⟩
      by_cases hlt : j < 400
      · refine .inr ⟨by show j < (400 : Int).toNat; omega, fun H' => Same H1 H' ∧ H' D = some (.lst (iV (ring.take (j + 1)))), fun H' ⟨h1, h2⟩ => ⟨400 - (j + 1), by omega, rfl, hlt, h1, h2⟩, fun x H' y => ?_⟩
        obtain ⟨rfl, rfl⟩ := y
        refine ⟨rfl, ?_⟩
        unfold tYes
        dsimp only
        rw [if_pos rfl]
        refine ⟨_, rfl, _, _, rfl, rfl, .inl ⟨_, rfl, _, _, rfl, rfl, (by show (400 : Int) ≠ 0; decide), iV (ring.take j), e2, by rw [iV_len, List.length_take, ring_len]; omega, ?_, ?_⟩⟩
        · intro b o e
          rw [upd_ne (ne_of_none e nD)]
          exact s2 _ _ e
        · rw [upd_same]
          have e : ((0 + (j : Int) + 1).fmod 400) = (((j + 1) % 400 : Nat) : Int) := by
            rw [Int.fmod_eq_emod_of_nonneg _ (by decide)]
            omega
          show some (HO.lst (iV (ring.take j) ++ [V.int ((0 + (j : Int) + 1).fmod 400)])) = _
          rw [e, List.take_succ, ring_at hlt]
          unfold iV
          rw [List.map_append]
          rfl
      · obtain rfl : j = 400 := by omega
        refine .inl ⟨by show (400 : Int).toNat ≤ 400; decide, fun σ6 c6 => ?_⟩
        obtain rfl : σ6 = [some (.ref a), some (.ref L), v2, v3, v4, v5, v6, v7, v8, v9, v10, v11, some (.ref D), v13] := c6
        have eD : H2 D = some (.lst (iV ring)) := by
          rw [e2, List.take_of_length_le (by rw [ring_len]; exact Nat.le_refl _)]
        have tb2 := tb1.ext s2
        clear e2 s2 tb1 lan
        have zeros : ∀ n : Nat, ∀ x ∈ List.replicate n 0, x ≤ 1 := fun n x hx => by rw [(List.mem_replicate.mp hx).2]; omega
        refine nxI (pSeq (pAsg (pLst2 (hearO (o := none) (r := ring) (u := ring) (c := List.replicate 400 0) tb2 (fun H3 R e3 kk => ?_) fun vA HA eA tA dA => ?_))))
        · have eD3 := e3 _ _ eD fun ps z => by cases z
          refine ⟨_, rfl, _, rfl, by show 1 ≤ sizeLine; decide, fun l1 Hc nc ec sc => ⟨l1, _, _, rfl, rfl, ec, by decide, by decide, by decide, fun l2 n2 => ?_⟩⟩
          have e4 : (upd Hc l2 (.lst (List.replicate (400 : Int).toNat [V.int 0]).flatten)) l2 = some (.lst (iV (List.replicate 400 0))) := by
            rw [upd_same]
            exact congrArg (fun z => some (HO.lst z)) (repl_one 400 0)
          have s4 : Same Hc (upd Hc l2 (.lst (List.replicate (400 : Int).toNat [V.int 0]).flatten)) := Same.neu n2
          exact kk _ (.ref D) (.ref D) (.ref l2) (sc.trans s4) (.ok (good_lst (s4 _ _ (sc _ _ eD3))) ring_ord (by rw [ring_len]; exact Nat.le_refl _) (good_lst (s4 _ _ (sc _ _ eD3))) ring_ord rfl (good_lst e4) (by rw [List.length_replicate, ring_len]) (zeros 400) ring_all (ring_corn _))
        · cases (show vA = .non from dA)
          have eDA := eA _ _ eD fun ps z => by cases z
          refine hear (o := some (true, "right")) (r := []) (u := []) (c := []) tA (fun H3 R e3 kk => ?_) fun p2 HB eB tB fB => ?_
          · have eD3 := e3 _ _ eDA fun ps z => by cases z
            refine ⟨_, rfl, by show 1 ≤ sizeLine; decide, fun l1 Ha na ea sa => ⟨D, l1, _, _, rfl, rfl, sa _ _ eD3, ea, by rw [iV_len, ring_len]; decide, fun c1 Hb nb eb sb => ?_⟩⟩
            refine ⟨_, rfl, by show 1 ≤ sizeLine; decide, fun l2 Hc nc ec sc => ⟨D, l2, _, _, rfl, rfl, sc _ _ (sb _ _ (sa _ _ eD3)), ec, by rw [iV_len, ring_len]; decide, fun c2 Hd nd ed sd => ?_⟩⟩
            refine ⟨by show 1 ≤ sizeLine; decide, fun l3 He ne ee se => ⟨l3, _, _, rfl, rfl, ee, by decide, by decide, by decide, fun l4 n4 => ?_⟩⟩
            refine kk _ (.ref c1) (.ref c2) (.ref l4) (((sa.trans sb).trans (sc.trans sd)).trans (se.trans (Same.neu n4))) (.right ⟨_, .lst (Same.neu n4 _ _ (se _ _ (sd _ _ (sc _ _ eb)))), fun xs h => .inl ?_⟩)
            cases h
            rw [List.length_append, iV_len, ring_len]
            decide
          · refine ⟨by decide, fun hh HD nD2 eD2 sD => fun σ7 c7 => ?_⟩
            obtain rfl : σ7 = [some (.ref a), some (.ref L), v2, v3, v4, v5, v6, v7, v8, v9, v10, v11, some (.ref D), some (.ref hh)] := c7
            refine ⟨_, rfl, by show 2 ≤ sizeLine; decide, fun q1 HE nE eE sE => ⟨by show 2 ≤ sizeLine; decide, fun q2 HF nF eF sF => ?_⟩⟩
            refine ⟨dLast, dLast, dp_last (sF _ _ (sE _ _ eD2)) (sF _ _ (sE _ _ (sD _ _ fB))), dp_last eF (sF _ _ eE), sh_last, sh_last, ?_⟩
            rw [ev_last]
            exact q HF
end
end K17

set_option maxRecDepth 100000
set_option maxHeartbeats 4000000
namespace K17
open PySem PySem.Spec PyProof.Rows L2 Nv
theorem kwS_rel {vs : List V} {us : List Value} {zs : List V} {ws : List Value} (r1 : Vals vs us) (r2 : Vals zs ws) : Vals (kwS vs zs) (kwS us ws) := by
  match vs, us, zs, ws, r1, r2 with
  | [], _, _, _, .nil, r => exact r
  | [_], _, [_, _, _], _, .cons a .nil, .cons b (.cons c (.cons d .nil)) => exact .cons a (.cons d (.cons c (.cons b .nil)))
  | [_], _, [], _, .cons a .nil, .nil => exact .nil
  | [_], _, [_], _, .cons a .nil, .cons b .nil => exact .cons b .nil
  | [_], _, [_, _], _, .cons a .nil, .cons b (.cons c .nil) => exact .cons b (.cons c .nil)
  | [_], _, _ :: _ :: _ :: _ :: _, _, .cons a .nil, .cons b (.cons c (.cons d (.cons e r))) => exact .cons b (.cons c (.cons d (.cons e r)))
  | _ :: _ :: _, _, _, _, .cons a (.cons b r), r2 => exact r2
end K17
namespace K17
open PySem PySem.Spec PyProof.Rows L2 Nv LamX
theorem all_mk {l : PySem.W.OpenLaw} {w : World} {K : PySem.W.Frag} {h : Heap} {mg : Str → Option Value} {fa : Addr} (X : K.In h) (G : h.Ns mainGlobals mg) (hfa : mg "law" = some (.ref fa))
    {f0 : Addr} {od0 an0 : Option Addr} {sl0 : Array (Option Value)} {oc0 kV0 dc0 pm0 ct0 : Value} {cd0 : Value} {f1 : Addr} {od1 an1 : Option Addr} {sl1 : Array (Option Value)} {oc1 kV1 dc1 pm1 ct1 : Value} {cd1 : Value} {f2 : Addr} {od2 an2 : Option Addr} {sl2 : Array (Option Value)} {oc2 kV2 dc2 pm2 ct2 : Value} {cd2 : Value} {f3 : Addr} {od3 an3 : Option Addr} {sl3 : Array (Option Value)} {oc3 kV3 dc3 pm3 ct3 : Value} {cd3 : Value} {f4 : Addr} {od4 an4 : Option Addr} {sl4 : Array (Option Value)} {oc4 kV4 dc4 pm4 ct4 : Value} {cd4 : Value} {f5 : Addr} {od5 an5 : Option Addr} {sl5 : Array (Option Value)} {oc5 kV5 dc5 pm5 ct5 : Value} {cd5 : Value} {f6 : Addr} {od6 an6 : Option Addr} {sl6 : Array (Option Value)} {oc6 kV6 dc6 pm6 ct6 : Value} {cd6 : Value} {f7 : Addr} {od7 an7 : Option Addr} {sl7 : Array (Option Value)} {oc7 kV7 dc7 pm7 ct7 : Value} {cd7 : Value} {f8 : Addr} {od8 an8 : Option Addr} {sl8 : Array (Option Value)} {oc8 kV8 dc8 pm8 ct8 : Value} {cd8 : Value} {f9 : Addr} {od9 an9 : Option Addr} {sl9 : Array (Option Value)} {oc9 kV9 dc9 pm9 ct9 : Value} {cd9 : Value} {f10 : Addr} {od10 an10 : Option Addr} {sl10 : Array (Option Value)} {oc10 kV10 dc10 pm10 ct10 : Value} {cd10 : Value} {f11 : Addr} {od11 an11 : Option Addr} {sl11 : Array (Option Value)} {oc11 kV11 dc11 pm11 ct11 : Value} {cd11 : Value} {f12 : Addr} {od12 an12 : Option Addr} {sl12 : Array (Option Value)} {oc12 kV12 dc12 pm12 ct12 : Value} {cd12 : Value} {f13 : Addr} {od13 an13 : Option Addr} {sl13 : Array (Option Value)} {oc13 kV13 dc13 pm13 ct13 : Value} {cd13 : Value} {f14 : Addr} {od14 an14 : Option Addr} {sl14 : Array (Option Value)} {oc14 kV14 dc14 pm14 ct14 : Value} {cA14 P14 : Addr} {vc14 : Value} {dd14 : Option Addr} {fs14 : Array Value} {sc14 : Array (Option Value)} {f15 : Addr} {od15 an15 : Option Addr} {sl15 : Array (Option Value)} {oc15 kV15 dc15 pm15 ct15 : Value} {cA15 P15 : Addr} {vc15 : Value} {dd15 : Option Addr} {fs15 : Array Value} {sc15 : Array (Option Value)} {CSheet : Addr} {f_Sheet_init : Addr} {od_Sheet_init an_Sheet_init : Option Addr} {sl_Sheet_init : Array (Option Value)} {oc_Sheet_init kV_Sheet_init dc_Sheet_init pm_Sheet_init cd_Sheet_init ct_Sheet_init : Value} {f_Sheet_eq : Addr} {od_Sheet_eq an_Sheet_eq : Option Addr} {sl_Sheet_eq : Array (Option Value)} {oc_Sheet_eq kV_Sheet_eq dc_Sheet_eq pm_Sheet_eq cd_Sheet_eq ct_Sheet_eq : Value} {CMirrorError : Addr} {CTooMany : Addr} {CBadSheet : Addr} {nm_BadSheet qn_BadSheet : Str} {N_BadSheet : Addr} {bs_BadSheet sub_BadSheet : List Value} {sn_BadSheet : List Str} {ab_BadSheet : Bool} {col_BadSheet : Option Bool} {m0_BadSheet m1_BadSheet m2_BadSheet m3_BadSheet m5_BadSheet : Option Value} {dd_BadSheet : Option Addr} {f_BadSheet_init : Addr} {od_BadSheet_init an_BadSheet_init : Option Addr} {sl_BadSheet_init : Array (Option Value)} {oc_BadSheet_init kV_BadSheet_init dc_BadSheet_init pm_BadSheet_init cd_BadSheet_init ct_BadSheet_init : Value} {CMisfit : Addr} {nm_Misfit qn_Misfit : Str} {N_Misfit : Addr} {bs_Misfit sub_Misfit : List Value} {sn_Misfit : List Str} {ab_Misfit : Bool} {col_Misfit : Option Bool} {m0_Misfit m1_Misfit m2_Misfit m3_Misfit m5_Misfit : Option Value} {dd_Misfit : Option Addr} {f_Misfit_init : Addr} {od_Misfit_init an_Misfit_init : Option Addr} {sl_Misfit_init : Array (Option Value)} {oc_Misfit_init kV_Misfit_init dc_Misfit_init pm_Misfit_init cd_Misfit_init ct_Misfit_init : Value} {tkX : Tok}
    (a0 : PySem.W.nsIn K mainGlobals "is_integer" = some (some (.ref f0)))
    (l0 : K.lookup f0 = some ⟨oc0, od0, .func (PySem.W.fnOf "is_integer" "is_integer" (defArgs s_is_integer) (defBody s_is_integer) (defScope s_is_integer) .none kV0 dc0 pm0 an0 cd0 ct0), sl0⟩)
    (c0 : PySem.W.codeIn K cd0 "is_integer" = true)
    (k0 : PySem.W.keepIn K (.ref f0) = true)
    (a1 : PySem.W.nsIn K mainGlobals "is_within" = some (some (.ref f1)))
    (l1 : K.lookup f1 = some ⟨oc1, od1, .func (PySem.W.fnOf "is_within" "is_within" (defArgs s_is_within) (defBody s_is_within) (defScope s_is_within) .none kV1 dc1 pm1 an1 cd1 ct1), sl1⟩)
    (c1 : PySem.W.codeIn K cd1 "is_within" = true)
    (k1 : PySem.W.keepIn K (.ref f1) = true)
    (a2 : PySem.W.nsIn K mainGlobals "is_row" = some (some (.ref f2)))
    (l2 : K.lookup f2 = some ⟨oc2, od2, .func (PySem.W.fnOf "is_row" "is_row" (defArgs s_is_row) (defBody s_is_row) (defScope s_is_row) .none kV2 dc2 pm2 an2 cd2 ct2), sl2⟩)
    (c2 : PySem.W.codeIn K cd2 "is_row" = true)
    (k2 : PySem.W.keepIn K (.ref f2) = true)
    (a3 : PySem.W.nsIn K mainGlobals "_is_order" = some (some (.ref f3)))
    (l3 : K.lookup f3 = some ⟨oc3, od3, .func (PySem.W.fnOf "_is_order" "_is_order" (defArgs s__is_order) (defBody s__is_order) (defScope s__is_order) .none kV3 dc3 pm3 an3 cd3 ct3), sl3⟩)
    (c3 : PySem.W.codeIn K cd3 "_is_order" = true)
    (k3 : PySem.W.keepIn K (.ref f3) = true)
    (a4 : PySem.W.nsIn K mainGlobals "_reach_all" = some (some (.ref f4)))
    (l4 : K.lookup f4 = some ⟨oc4, od4, .func (PySem.W.fnOf "_reach_all" "_reach_all" (defArgs s__reach_all) (defBody s__reach_all) (defScope s__reach_all) .none kV4 dc4 pm4 an4 cd4 ct4), sl4⟩)
    (c4 : PySem.W.codeIn K cd4 "_reach_all" = true)
    (k4 : PySem.W.keepIn K (.ref f4) = true)
    (a5 : PySem.W.nsIn K mainGlobals "_have_corners" = some (some (.ref f5)))
    (l5 : K.lookup f5 = some ⟨oc5, od5, .func (PySem.W.fnOf "_have_corners" "_have_corners" (defArgs s__have_corners) (defBody s__have_corners) (defScope s__have_corners) .none kV5 dc5 pm5 an5 cd5 ct5), sl5⟩)
    (c5 : PySem.W.codeIn K cd5 "_have_corners" = true)
    (k5 : PySem.W.keepIn K (.ref f5) = true)
    (a6 : PySem.W.nsIn K mainGlobals "_law_pantry" = some (some (.ref f6)))
    (l6 : K.lookup f6 = some ⟨oc6, od6, .func (PySem.W.fnOf "_law_pantry" "_law_pantry" (defArgs s__law_pantry) (defBody s__law_pantry) (defScope s__law_pantry) .none kV6 dc6 pm6 an6 cd6 ct6), sl6⟩)
    (c6 : PySem.W.codeIn K cd6 "_law_pantry" = true)
    (k6 : PySem.W.keepIn K (.ref f6) = true)
    (a7 : PySem.W.nsIn K mainGlobals "_law_shelf" = some (some (.ref f7)))
    (l7 : K.lookup f7 = some ⟨oc7, od7, .func (PySem.W.fnOf "_law_shelf" "_law_shelf" (defArgs s__law_shelf) (defBody s__law_shelf) (defScope s__law_shelf) .none kV7 dc7 pm7 an7 cd7 ct7), sl7⟩)
    (c7 : PySem.W.codeIn K cd7 "_law_shelf" = true)
    (k7 : PySem.W.keepIn K (.ref f7) = true)
    (a8 : PySem.W.nsIn K mainGlobals "_law_one_of" = some (some (.ref f8)))
    (l8 : K.lookup f8 = some ⟨oc8, od8, .func (PySem.W.fnOf "_law_one_of" "_law_one_of" (defArgs s__law_one_of) (defBody s__law_one_of) (defScope s__law_one_of) .none kV8 dc8 pm8 an8 cd8 ct8), sl8⟩)
    (c8 : PySem.W.codeIn K cd8 "_law_one_of" = true)
    (k8 : PySem.W.keepIn K (.ref f8) = true)
    (a9 : PySem.W.nsIn K mainGlobals "_law_heard" = some (some (.ref f9)))
    (l9 : K.lookup f9 = some ⟨oc9, od9, .func (PySem.W.fnOf "_law_heard" "_law_heard" (defArgs s__law_heard) (defBody s__law_heard) (defScope s__law_heard) .none kV9 dc9 pm9 an9 cd9 ct9), sl9⟩)
    (c9 : PySem.W.codeIn K cd9 "_law_heard" = true)
    (k9 : PySem.W.keepIn K (.ref f9) = true)
    (a10 : PySem.W.nsIn K mainGlobals "_law_dealt" = some (some (.ref f10)))
    (l10 : K.lookup f10 = some ⟨oc10, od10, .func (PySem.W.fnOf "_law_dealt" "_law_dealt" (defArgs s__law_dealt) (defBody s__law_dealt) (defScope s__law_dealt) .none kV10 dc10 pm10 an10 cd10 ct10), sl10⟩)
    (c10 : PySem.W.codeIn K cd10 "_law_dealt" = true)
    (k10 : PySem.W.keepIn K (.ref f10) = true)
    (a11 : PySem.W.nsIn K mainGlobals "_law_hangs" = some (some (.ref f11)))
    (l11 : K.lookup f11 = some ⟨oc11, od11, .func (PySem.W.fnOf "_law_hangs" "_law_hangs" (defArgs s__law_hangs) (defBody s__law_hangs) (defScope s__law_hangs) .none kV11 dc11 pm11 an11 cd11 ct11), sl11⟩)
    (c11 : PySem.W.codeIn K cd11 "_law_hangs" = true)
    (k11 : PySem.W.keepIn K (.ref f11) = true)
    (a12 : PySem.W.nsIn K mainGlobals "_law_must" = some (some (.ref f12)))
    (l12 : K.lookup f12 = some ⟨oc12, od12, .func (PySem.W.fnOf "_law_must" "_law_must" (defArgs s__law_must) (defBody s__law_must) (defScope s__law_must) .none kV12 dc12 pm12 an12 cd12 ct12), sl12⟩)
    (c12 : PySem.W.codeIn K cd12 "_law_must" = true)
    (k12 : PySem.W.keepIn K (.ref f12) = true)
    (a13 : PySem.W.nsIn K mainGlobals "_law_bent" = some (some (.ref f13)))
    (l13 : K.lookup f13 = some ⟨oc13, od13, .func (PySem.W.fnOf "_law_bent" "_law_bent" (defArgs s__law_bent) (defBody s__law_bent) (defScope s__law_bent) .none kV13 dc13 pm13 an13 cd13 ct13), sl13⟩)
    (c13 : PySem.W.codeIn K cd13 "_law_bent" = true)
    (k13 : PySem.W.keepIn K (.ref f13) = true)
    (a14 : PySem.W.nsIn K mainGlobals "_law_rows_right" = some (some (.ref f14)))
    (l14 : K.lookup f14 = some ⟨oc14, od14, .func (PySem.W.fnOf "_law_rows_right" "_law_rows_right" (defArgs s__law_rows_right) (defBody s__law_rows_right) (defScope s__law_rows_right) .none kV14 dc14 pm14 an14 (.ref cA14) ct14), sl14⟩)
    (c14 : PySem.W.codeIn K (.ref cA14) "_law_rows_right" = true)
    (k14 : PySem.W.keepIn K (.ref f14) = true)
    (q14 : K.lookup cA14 = some ⟨vc14, dd14, .fields fs14, sc14⟩)
    (p14 : fs14[11]? = some (.ref P14))
    (h14 : PySem.W.codeHdIn K cA14 P14 = true)
    (n14 : K.lookup P14 = none)
    (t14 : h.get? P14 = some (PySem.W.tabObj #[]))
    (a15 : PySem.W.nsIn K mainGlobals "law" = some (some (.ref f15)))
    (l15 : K.lookup f15 = some ⟨oc15, od15, .func (PySem.W.fnOf "law" "law" (defArgs s_law) (defBody s_law) (defScope s_law) .none kV15 dc15 pm15 an15 (.ref cA15) ct15), sl15⟩)
    (c15 : PySem.W.codeIn K (.ref cA15) "law" = true)
    (k15 : PySem.W.keepIn K (.ref f15) = true)
    (q15 : K.lookup cA15 = some ⟨vc15, dd15, .fields fs15, sc15⟩)
    (p15 : fs15[11]? = some (.ref P15))
    (h15 : PySem.W.codeHdIn K cA15 P15 = true)
    (n15 : K.lookup P15 = none)
    (t15 : h.get? P15 = some (PySem.W.tabObj #[]))
    (u15_14 : P15 ≠ P14)
    (g_Sheet : PySem.W.nsIn K mainGlobals "Sheet" = some (some (.ref CSheet)))
    (Sheet_pg : PySem.W.plainGet K CSheet Str.empty = true)
    (Sheet_hd : PySem.W.hasDictIn K CSheet = true)
    (Sheet_po : PySem.W.plainOver K CSheet = true)
    (Sheet_sa : PySem.W.findIn K (.ref CSheet) "__setattr__" = some (some (.builtin "object.__setattr__")))
    (Sheet_mk : PySem.W.makesIn K CSheet = true)
    (Sheet_kp : PySem.W.keepIn K (.ref CSheet) = true)
    (Sheet_ne : PySem.W.findIn K (.ref CSheet) "__ne__" = some (some (.builtin "object.__ne__")))
    (Sheet_ob : PySem.W.mroIn K CSheet (.type "object") = some true)
    (Sheet_ca : PySem.W.findIn K (.ref CSheet) "__class__" = some (some (.builtin "object.__class__")))
    (Sheet_no_right : PySem.W.findIn K (.ref CSheet) "right" = some none)
    (Sheet_no_up : PySem.W.findIn K (.ref CSheet) "up" = some none)
    (Sheet_no_corners : PySem.W.findIn K (.ref CSheet) "corners" = some none)
    (Sheet_no_many : PySem.W.findIn K (.ref CSheet) "many" = some none)
    (i_Sheet_init : PySem.W.findIn K (.ref CSheet) "__init__" = some (some (.ref f_Sheet_init)))
    (l_Sheet_init : K.lookup f_Sheet_init = some ⟨oc_Sheet_init, od_Sheet_init, .func (PySem.W.fnOf "__init__" "Sheet.__init__" (defArgs s_Sheet_init) (defBody s_Sheet_init) (defScope s_Sheet_init) .none kV_Sheet_init dc_Sheet_init pm_Sheet_init an_Sheet_init cd_Sheet_init ct_Sheet_init), sl_Sheet_init⟩)
    (c_Sheet_init : PySem.W.codeIn K cd_Sheet_init "Sheet.__init__" = true)
    (k_Sheet_init : PySem.W.keepIn K (.ref f_Sheet_init) = true)
    (e_Sheet_init : PySem.W.isFn K (.ref f_Sheet_init) = true)
    (i_Sheet_eq : PySem.W.findIn K (.ref CSheet) "__eq__" = some (some (.ref f_Sheet_eq)))
    (l_Sheet_eq : K.lookup f_Sheet_eq = some ⟨oc_Sheet_eq, od_Sheet_eq, .func (PySem.W.fnOf "__eq__" "Sheet.__eq__" (defArgs s_Sheet_eq) (defBody s_Sheet_eq) (defScope s_Sheet_eq) .none kV_Sheet_eq dc_Sheet_eq pm_Sheet_eq an_Sheet_eq cd_Sheet_eq ct_Sheet_eq), sl_Sheet_eq⟩)
    (c_Sheet_eq : PySem.W.codeIn K cd_Sheet_eq "Sheet.__eq__" = true)
    (k_Sheet_eq : PySem.W.keepIn K (.ref f_Sheet_eq) = true)
    (e_Sheet_eq : PySem.W.isFn K (.ref f_Sheet_eq) = true)
    (obj_g : PySem.W.specialIn K (.builtin "object.__class__") "__get__" = some (some (.builtin "getset_descriptor.__get__")))
    (obj_t : PySem.W.takesIn K (.builtin "object.__class__") = some true)
    (g_MirrorError : PySem.W.nsIn K mainGlobals "MirrorError" = some (some (.ref CMirrorError)))
    (g_TooMany : PySem.W.nsIn K mainGlobals "TooMany" = some (some (.ref CTooMany)))
    (g_BadSheet : PySem.W.nsIn K mainGlobals "BadSheet" = some (some (.ref CBadSheet)))
    (x_BadSheet : K.lookup CBadSheet = some (excClassObj nm_BadSheet qn_BadSheet CBadSheet N_BadSheet bs_BadSheet [.ref CMirrorError, .type "ValueError", .type "Exception", .type "BaseException", .type "object"] true sn_BadSheet sub_BadSheet ab_BadSheet col_BadSheet dd_BadSheet m0_BadSheet m1_BadSheet m2_BadSheet m3_BadSheet m5_BadSheet "ValueError.__new__"))
    (BadSheet_sa : PySem.W.findIn K (.ref CBadSheet) "__setattr__" = some (some (.builtin "object.__setattr__")))
    (BadSheet_ex : PySem.W.subIn K (.ref CBadSheet) (.type "BaseException") = some true)
    (BadSheet_ty : PySem.W.typeIn K (.ref CBadSheet) = some (.type "type"))
    (BadSheet_kp : PySem.W.keepIn K (.ref CBadSheet) = true)
    (BadSheet_ga : PySem.W.findIn K (.ref CBadSheet) "__getattribute__" = some (some (.builtin "BaseException.__getattribute__")))
    (BadSheet_gg : PySem.W.findIn K (.ref CBadSheet) "__getattr__" = some none)
    (BadSheet_hd : PySem.W.hasDictIn K CBadSheet = true)
    (BadSheet_ca : PySem.W.findIn K (.ref CBadSheet) "__class__" = some (some (.builtin "object.__class__")))
    (BadSheet_ob : PySem.W.mroIn K CBadSheet (.type "object") = some true)
    (i_BadSheet_init : PySem.W.findIn K (.ref CBadSheet) "__init__" = some (some (.ref f_BadSheet_init)))
    (ti_BadSheet_init : PySem.W.typeIn K (.ref f_BadSheet_init) = some (.type "function"))
    (l_BadSheet_init : K.lookup f_BadSheet_init = some ⟨oc_BadSheet_init, od_BadSheet_init, .func (PySem.W.fnOf "__init__" "BadSheet.__init__" (defArgs s_BadSheet_init) (defBody s_BadSheet_init) (defScope s_BadSheet_init) .none kV_BadSheet_init dc_BadSheet_init pm_BadSheet_init an_BadSheet_init cd_BadSheet_init ct_BadSheet_init), sl_BadSheet_init⟩)
    (c_BadSheet_init : PySem.W.codeIn K cd_BadSheet_init "BadSheet.__init__" = true)
    (k_BadSheet_init : PySem.W.keepIn K (.ref f_BadSheet_init) = true)
    (BadSheet_no_part : PySem.W.findIn K (.ref CBadSheet) "part" = some none)
    (g_Misfit : PySem.W.nsIn K mainGlobals "Misfit" = some (some (.ref CMisfit)))
    (x_Misfit : K.lookup CMisfit = some (excClassObj nm_Misfit qn_Misfit CMisfit N_Misfit bs_Misfit [.ref CMirrorError, .type "ValueError", .type "Exception", .type "BaseException", .type "object"] true sn_Misfit sub_Misfit ab_Misfit col_Misfit dd_Misfit m0_Misfit m1_Misfit m2_Misfit m3_Misfit m5_Misfit "ValueError.__new__"))
    (Misfit_sa : PySem.W.findIn K (.ref CMisfit) "__setattr__" = some (some (.builtin "object.__setattr__")))
    (Misfit_ex : PySem.W.subIn K (.ref CMisfit) (.type "BaseException") = some true)
    (Misfit_ty : PySem.W.typeIn K (.ref CMisfit) = some (.type "type"))
    (Misfit_kp : PySem.W.keepIn K (.ref CMisfit) = true)
    (Misfit_ga : PySem.W.findIn K (.ref CMisfit) "__getattribute__" = some (some (.builtin "BaseException.__getattribute__")))
    (Misfit_gg : PySem.W.findIn K (.ref CMisfit) "__getattr__" = some none)
    (Misfit_hd : PySem.W.hasDictIn K CMisfit = true)
    (Misfit_ca : PySem.W.findIn K (.ref CMisfit) "__class__" = some (some (.builtin "object.__class__")))
    (Misfit_ob : PySem.W.mroIn K CMisfit (.type "object") = some true)
    (i_Misfit_init : PySem.W.findIn K (.ref CMisfit) "__init__" = some (some (.ref f_Misfit_init)))
    (ti_Misfit_init : PySem.W.typeIn K (.ref f_Misfit_init) = some (.type "function"))
    (l_Misfit_init : K.lookup f_Misfit_init = some ⟨oc_Misfit_init, od_Misfit_init, .func (PySem.W.fnOf "__init__" "Misfit.__init__" (defArgs s_Misfit_init) (defBody s_Misfit_init) (defScope s_Misfit_init) .none kV_Misfit_init dc_Misfit_init pm_Misfit_init an_Misfit_init cd_Misfit_init ct_Misfit_init), sl_Misfit_init⟩)
    (c_Misfit_init : PySem.W.codeIn K cd_Misfit_init "Misfit.__init__" = true)
    (k_Misfit_init : PySem.W.keepIn K (.ref f_Misfit_init) = true)
    (Misfit_no_part : PySem.W.findIn K (.ref CMisfit) "part" = some none)
    (em_BadSheet : PySem.W.exmOne K (.ref CBadSheet) (.ref CMirrorError) = some true)
    (em_Misfit : PySem.W.exmOne K (.ref CMisfit) (.ref CMirrorError) = some true)
    (kBT : PySem.W.kitOne K (.ref CBadSheet) (.ref CTooMany) = some false)
    (kBB : PySem.W.kitOne K (.ref CBadSheet) (.ref CBadSheet) = some true)
    (kBF : PySem.W.kitOne K (.ref CBadSheet) (.ref CMisfit) = some false)
    (kFT : PySem.W.kitOne K (.ref CMisfit) (.ref CTooMany) = some false)
    (kFB : PySem.W.kitOne K (.ref CMisfit) (.ref CBadSheet) = some false)
    (kFF : PySem.W.kitOne K (.ref CMisfit) (.ref CMisfit) = some true)
    (kNT : PySem.W.kitOne K (.type "NoneType") (.ref CTooMany) = some false)
    (kNB : PySem.W.kitOne K (.type "NoneType") (.ref CBadSheet) = some false)
    (kNF : PySem.W.kitOne K (.type "NoneType") (.ref CMisfit) = some false)
    (kSS : PySem.W.kitOne K (.ref CSheet) (.ref CSheet) = some true)
    (kTS : PySem.W.kitOne K (.type "tuple") (.ref CSheet) = some false)
    (nfS : PySem.W.notFirst K CSheet (.ref CSheet) = true)
    (nfT : PySem.W.notFirst K CSheet (.type "tuple") = true)
    (n_isinstance : PySem.W.nsIn K mainGlobals "isinstance" = some none)
    (n_int : PySem.W.nsIn K mainGlobals "int" = some none)
    (n_bool : PySem.W.nsIn K mainGlobals "bool" = some none)
    (n_list : PySem.W.nsIn K mainGlobals "list" = some none)
    (n_tuple : PySem.W.nsIn K mainGlobals "tuple" = some none)
    (n_len : PySem.W.nsIn K mainGlobals "len" = some none)
    (n_all : PySem.W.nsIn K mainGlobals "all" = some none)
    (n_set : PySem.W.nsIn K mainGlobals "set" = some none)
    (n_range : PySem.W.nsIn K mainGlobals "range" = some none)
    (n_sorted : PySem.W.nsIn K mainGlobals "sorted" = some none)
    (n_abs : PySem.W.nsIn K mainGlobals "abs" = some none)
    (n_repr : PySem.W.nsIn K mainGlobals "repr" = some none)
    (v_MOST_IN_SHEET : PySem.W.nsIn K mainGlobals "MOST_IN_SHEET" = some (some (.int 400 tkX)))
    : LawT l w K 9 63 "script" mg fa h := by
  have e := hfa.symm.trans (PySem.W.mg_of X G a15)
  cases e
  have F0 := fun_mk (st := s_is_integer) l0 c0 k0
  have D_is_integer : Df K mg "is_integer" s_is_integer ["value"] f0 _ := ⟨F0, PySem.W.mg_of X G a0, F0.binds (ps := ["value"]) fun _ _ _ _ _ _ us hl => match us, hl with | [_], _ => rfl⟩
  have F1 := fun_mk (st := s_is_within) l1 c1 k1
  have D_is_within : Df K mg "is_within" s_is_within ["value", "least", "most"] f1 _ := ⟨F1, PySem.W.mg_of X G a1, F1.binds (ps := ["value", "least", "most"]) fun _ _ _ _ _ _ us hl => match us, hl with | [_, _, _], _ => rfl⟩
  have F2 := fun_mk (st := s_is_row) l2 c2 k2
  have D_is_row : Df K mg "is_row" s_is_row ["value"] f2 _ := ⟨F2, PySem.W.mg_of X G a2, F2.binds (ps := ["value"]) fun _ _ _ _ _ _ us hl => match us, hl with | [_], _ => rfl⟩
  have F3 := fun_mk (st := s__is_order) l3 c3 k3
  have D__is_order : Df K mg "_is_order" s__is_order ["row"] f3 _ := ⟨F3, PySem.W.mg_of X G a3, F3.binds (ps := ["row"]) fun _ _ _ _ _ _ us hl => match us, hl with | [_], _ => rfl⟩
  have F4 := fun_mk (st := s__reach_all) l4 c4 k4
  have D__reach_all : Df K mg "_reach_all" s__reach_all ["right", "up"] f4 _ := ⟨F4, PySem.W.mg_of X G a4, F4.binds (ps := ["right", "up"]) fun _ _ _ _ _ _ us hl => match us, hl with | [_, _], _ => rfl⟩
  have F5 := fun_mk (st := s__have_corners) l5 c5 k5
  have D__have_corners : Df K mg "_have_corners" s__have_corners ["right", "up", "corners"] f5 _ := ⟨F5, PySem.W.mg_of X G a5, F5.binds (ps := ["right", "up", "corners"]) fun _ _ _ _ _ _ us hl => match us, hl with | [_, _, _], _ => rfl⟩
  have F6 := fun_mk (st := s__law_pantry) l6 c6 k6
  have D__law_pantry : Df K mg "_law_pantry" s__law_pantry ["script"] f6 _ := ⟨F6, PySem.W.mg_of X G a6, F6.binds (ps := ["script"]) fun _ _ _ _ _ _ us hl => match us, hl with | [_], _ => rfl⟩
  have F7 := fun_mk (st := s__law_shelf) l7 c7 k7
  have D__law_shelf : Df K mg "_law_shelf" s__law_shelf ["pantry", "many"] f7 _ := ⟨F7, PySem.W.mg_of X G a7, F7.binds (ps := ["pantry", "many"]) fun _ _ _ _ _ _ us hl => match us, hl with | [_, _], _ => rfl⟩
  have F8 := fun_mk (st := s__law_one_of) l8 c8 k8
  have D__law_one_of : Df K mg "_law_one_of" s__law_one_of ["pantry", "some"] f8 _ := ⟨F8, PySem.W.mg_of X G a8, F8.binds (ps := ["pantry", "some"]) fun _ _ _ _ _ _ us hl => match us, hl with | [_, _], _ => rfl⟩
  have F9 := fun_mk (st := s__law_heard) l9 c9 k9
  have D__law_heard : Df K mg "_law_heard" s__law_heard ["ask"] f9 _ := ⟨F9, PySem.W.mg_of X G a9, F9.binds (ps := ["ask"]) fun _ _ _ _ _ _ us hl => match us, hl with | [_], _ => rfl⟩
  have F10 := fun_mk (st := s__law_dealt) l10 c10 k10
  have D__law_dealt : Df K mg "_law_dealt" s__law_dealt ["pantry", "many"] f10 _ := ⟨F10, PySem.W.mg_of X G a10, F10.binds (ps := ["pantry", "many"]) fun _ _ _ _ _ _ us hl => match us, hl with | [_, _], _ => rfl⟩
  have F11 := fun_mk (st := s__law_hangs) l11 c11 k11
  have D__law_hangs : Df K mg "_law_hangs" s__law_hangs ["right", "up"] f11 _ := ⟨F11, PySem.W.mg_of X G a11, F11.binds (ps := ["right", "up"]) fun _ _ _ _ _ _ us hl => match us, hl with | [_, _], _ => rfl⟩
  have F12 := fun_mk (st := s__law_must) l12 c12 k12
  have D__law_must : Df K mg "_law_must" s__law_must ["right", "up"] f12 _ := ⟨F12, PySem.W.mg_of X G a12, F12.binds (ps := ["right", "up"]) fun _ _ _ _ _ _ us hl => match us, hl with | [_, _], _ => rfl⟩
  have F13 := fun_mk (st := s__law_bent) l13 c13 k13
  have D__law_bent : Df K mg "_law_bent" s__law_bent ["pantry", "row"] f13 _ := ⟨F13, PySem.W.mg_of X G a13, F13.binds (ps := ["pantry", "row"]) fun _ _ _ _ _ _ us hl => match us, hl with | [_, _], _ => rfl⟩
  have F14 := fun_mk (st := s__law_rows_right) l14 c14 k14
  have D__law_rows_right : Df K mg "_law_rows_right" s__law_rows_right ["pantry", "right", "up", "corners"] f14 _ := ⟨F14, PySem.W.mg_of X G a14, F14.binds (ps := ["pantry", "right", "up", "corners"]) fun _ _ _ _ _ _ us hl => match us, hl with | [_, _, _, _], _ => rfl⟩
  have F15 := fun_mk (st := s_law) l15 c15 k15
  have F_Sheet_init := fun_mk (x := "__init__") (qual := "Sheet.__init__") (st := s_Sheet_init) l_Sheet_init c_Sheet_init k_Sheet_init
  have B_Sheet_init : Binds K _ ["self", "right", "up", "corners"] [] := F_Sheet_init.binds (ps := ["self", "right", "up", "corners"]) fun _ _ _ _ _ _ us hl => match us, hl with | [_, _, _, _], _ => rfl
  have F_Sheet_eq := fun_mk (x := "__eq__") (qual := "Sheet.__eq__") (st := s_Sheet_eq) l_Sheet_eq c_Sheet_eq k_Sheet_eq
  have B_Sheet_eq : Binds K _ ["self", "other"] [] := F_Sheet_eq.binds (ps := ["self", "other"]) fun _ _ _ _ _ _ us hl => match us, hl with | [_, _], _ => rfl
  have M_Sheet : Mk K CSheet f_Sheet_init := ⟨Sheet_mk, i_Sheet_init, e_Sheet_init, Sheet_kp⟩
  have cl_Sheet : Cls K CSheet := ⟨Sheet_pg, Sheet_hd, Sheet_po, Sheet_sa⟩
  have own_Sheet : OwnC K CSheet f_Sheet_eq := ⟨i_Sheet_eq, e_Sheet_eq, Sheet_ne, Sheet_ob⟩
  have F_BadSheet_init := fun_mk (x := "__init__") (qual := "BadSheet.__init__") (st := s_BadSheet_init) l_BadSheet_init c_BadSheet_init k_BadSheet_init
  have E_BadSheet : ErrC K mg "BadSheet" CBadSheet f_BadSheet_init _ "BadSheet.__init__" s_BadSheet_init ["self", "part"] := ⟨⟨⟨_, _, _, _, _, _, _, _, _, _, _, _, _, _, _, x_BadSheet, rfl⟩, BadSheet_sa, BadSheet_ex, BadSheet_ty, BadSheet_kp⟩, i_BadSheet_init, ti_BadSheet_init, F_BadSheet_init, F_BadSheet_init.binds (ps := ["self", "part"]) fun _ _ _ _ _ _ us hl => match us, hl with | [_, _], _ => rfl, PySem.W.mg_of X G g_BadSheet, ⟨BadSheet_ga, BadSheet_gg, BadSheet_ex, BadSheet_hd, BadSheet_ca, obj_g, obj_t, BadSheet_ob⟩, ⟨BadSheet_ga, BadSheet_gg, BadSheet_ex, BadSheet_hd⟩⟩
  have F_Misfit_init := fun_mk (x := "__init__") (qual := "Misfit.__init__") (st := s_Misfit_init) l_Misfit_init c_Misfit_init k_Misfit_init
  have E_Misfit : ErrC K mg "Misfit" CMisfit f_Misfit_init _ "Misfit.__init__" s_Misfit_init ["self", "part"] := ⟨⟨⟨_, _, _, _, _, _, _, _, _, _, _, _, _, _, _, x_Misfit, rfl⟩, Misfit_sa, Misfit_ex, Misfit_ty, Misfit_kp⟩, i_Misfit_init, ti_Misfit_init, F_Misfit_init, F_Misfit_init.binds (ps := ["self", "part"]) fun _ _ _ _ _ _ us hl => match us, hl with | [_, _], _ => rfl, PySem.W.mg_of X G g_Misfit, ⟨Misfit_ga, Misfit_gg, Misfit_ex, Misfit_hd, Misfit_ca, obj_g, obj_t, Misfit_ob⟩, ⟨Misfit_ga, Misfit_gg, Misfit_ex, Misfit_hd⟩⟩
  have T : Txt K mg tkX CSheet CBadSheet CMisfit CTooMany CMirrorError f_Sheet_eq := ⟨PySem.W.mg_none_of X G n_isinstance, PySem.W.mg_none_of X G n_int, PySem.W.mg_none_of X G n_bool, PySem.W.mg_none_of X G n_list, PySem.W.mg_none_of X G n_tuple, PySem.W.mg_none_of X G n_len, PySem.W.mg_none_of X G n_all, PySem.W.mg_none_of X G n_set, PySem.W.mg_none_of X G n_range, PySem.W.mg_none_of X G n_sorted, PySem.W.mg_none_of X G n_abs, PySem.W.mg_none_of X G n_repr, PySem.W.mg_of X G v_MOST_IN_SHEET, PySem.W.mg_of X G g_Sheet, PySem.W.mg_of X G g_BadSheet, PySem.W.mg_of X G g_Misfit, PySem.W.mg_of X G g_TooMany, PySem.W.mg_of X G g_MirrorError, cl_Sheet, own_Sheet, Sheet_no_right, Sheet_no_up, Sheet_no_corners, Sheet_no_many, BadSheet_no_part, Misfit_no_part, em_BadSheet, em_Misfit, kBT, kBB, kBF, kFT, kFB, kFF, kNT, kNB, kNF, kSS, kTS, nfS, nfT⟩
  have N : InC K CSheet := ⟨Sheet_ca, obj_g, obj_t, Sheet_ob⟩
  have kb : KBn K _ ["self", "right", "up", "corners"] 1 ["corners", "up", "right"] kwS kwS := ⟨fun s us ws _ l1 l2 => match us, ws, l1, l2 with | [_], [_, _, _], _, _ => .of_eq (show bindArgs (PySem.W.fnOf "__init__" "Sheet.__init__" (defArgs s_Sheet_init) (defBody s_Sheet_init) (defScope s_Sheet_init) .none kV_Sheet_init dc_Sheet_init pm_Sheet_init an_Sheet_init cd_Sheet_init ct_Sheet_init) _ = _ from rfl), kwS_rel⟩
  obtain ⟨TT, hTT⟩ : ∃ TT : List (Addr × Str), TT = [(P15, (("law" : Str) ++ ".<locals>.") ++ "<lambda>"), (P14, (("_law_rows_right" : Str) ++ ".<locals>.") ++ "<lambda>")] := ⟨_, rfl⟩
  have uL : ∀ p ∈ TT, p.1 = P15 → p.2 = (("law" : Str) ++ ".<locals>.") ++ "<lambda>" := fun p hp e => by
    rw [hTT] at hp
    rcases List.mem_cons.mp hp with z | z
    · rw [z]
    · rw [List.mem_singleton.mp z] at e
      exact absurd e.symm u15_14
  have uR : ∀ p ∈ TT, p.1 = P14 → p.2 = (("_law_rows_right" : Str) ++ ".<locals>.") ++ "<lambda>" := fun p hp e => by
    rw [hTT] at hp
    rcases List.mem_cons.mp hp with z | z
    · rw [z] at e
      exact absurd e u15_14
    · rw [List.mem_singleton.mp z]
  refine ⟨PySem.W.fnOf "law" "law" (defArgs s_law) (defBody s_law) (defScope s_law) .none kV15 dc15 pm15 an15 (.ref cA15) ct15, [(cA15, P15), (cA14, P14)], spLaw K TT, fun p hp => ?_, fun s v => .of_eq rfl, fun H a ns hl tab hS => ⟨a, ns, rfl, hS, hl, fun p hp => ?_, fun _ => rfl⟩, fun base _ _ tb => ?_⟩
  · rcases List.mem_cons.mp hp with z | z
    · rw [z]
      exact ⟨t15, n15, PySem.W.codeHd_of_K X h15⟩
    · rw [List.mem_singleton.mp z]
      exact ⟨t14, n14, PySem.W.codeHd_of_K X h14⟩
  · rw [hTT] at hp
    rcases List.mem_cons.mp hp with z | z
    · rw [z]
      exact TabS.nil (tab (cA15, P15) List.mem_cons_self)
    · rw [List.mem_singleton.mp z]
      exact TabS.nil (tab (cA14, P14) (List.mem_cons_of_mem _ List.mem_cons_self))
  · have GI : FnOk l.prog w K mg base (L2.CX l.prog w) 4 f_Sheet_init _ ["self", "right", "up", "corners"] (spInit17 CSheet CBadSheet CMisfit) := ok_Sheet_init F_Sheet_init D_is_row D__is_order D__reach_all D__have_corners D_is_integer D_is_within E_BadSheet E_Misfit T
    have GE : FnOk l.prog w K mg base CX0 1 f_Sheet_eq _ ["self", "other"] (spEqS K CSheet) := ok_Sheet_eq F_Sheet_eq T N
    have GR := ok_rows_right (P := l.prog) (w := w) (base := base) F14 D__law_shelf D__law_one_of D__law_bent D__law_heard M_Sheet GI B_Sheet_init E_BadSheet E_Misfit T rfl (tb (cA14, P14) (List.mem_cons_of_mem _ List.mem_cons_self)) (by rw [hTT]; exact List.mem_cons_of_mem _ List.mem_cons_self) uR
    exact ok_law F15 D__law_pantry D__law_shelf D__law_dealt D__law_must D__law_hangs D__law_heard D__law_rows_right GR M_Sheet GI B_Sheet_init kb GE B_Sheet_eq E_BadSheet E_Misfit T N rfl (tb (cA15, P15) List.mem_cons_self) (by rw [hTT]; exact List.mem_cons_self) uL
end K17
open PySem PySem.W PyProof.Rows
set_option maxRecDepth 100000 in
set_option maxHeartbeats 0 in
theorem PySem.Challenge.cw_neverhit_k17_sheets_made_and_refused_holds : PySem.Challenge.rw_neverhit_k17_sheets_made_and_refused.Holds := by
  w_on; o_law; k_head; (case hw => w_witness2)
  k_fill
  refine Nv.walkGT (l := PySem.Challenge.rw_neverhit_k17_sheets_made_and_refused) (n := 63) (k := 9) (x := "script") rfl (by decide) rfl ⟨rfl, by decide, by decide⟩ (fun w h Y => PySem.W.km_in_of Y) ?F
  case F =>
    intro w mg fa h Y KX G hmg
    have tabs := PySem.W.km_tabs_of Y
    refine' K17.all_mk KX G hmg ?a0 ?l0 ?c0 ?k0 ?a1 ?l1 ?c1 ?k1 ?a2 ?l2 ?c2 ?k2 ?a3 ?l3 ?c3 ?k3 ?a4 ?l4 ?c4 ?k4 ?a5 ?l5 ?c5 ?k5 ?a6 ?l6 ?c6 ?k6 ?a7 ?l7 ?c7 ?k7 ?a8 ?l8 ?c8 ?k8 ?a9 ?l9 ?c9 ?k9 ?a10 ?l10 ?c10 ?k10 ?a11 ?l11 ?c11 ?k11 ?a12 ?l12 ?c12 ?k12 ?a13 ?l13 ?c13 ?k13 ?a14 ?l14 ?c14 ?k14 ?q14 ?p14 ?h14 ?n14 ?t14 ?a15 ?l15 ?c15 ?k15 ?q15 ?p15 ?h15 ?n15 ?t15 ?u15_14 ?g_Sheet ?Sheet_pg ?Sheet_hd ?Sheet_po ?Sheet_sa ?Sheet_mk ?Sheet_kp ?Sheet_ne ?Sheet_ob ?Sheet_ca ?Sheet_no_right ?Sheet_no_up ?Sheet_no_corners ?Sheet_no_many ?i_Sheet_init ?l_Sheet_init ?c_Sheet_init ?k_Sheet_init ?e_Sheet_init ?i_Sheet_eq ?l_Sheet_eq ?c_Sheet_eq ?k_Sheet_eq ?e_Sheet_eq ?obj_g ?obj_t ?g_MirrorError ?g_TooMany ?g_BadSheet ?x_BadSheet ?BadSheet_sa ?BadSheet_ex ?BadSheet_ty ?BadSheet_kp ?BadSheet_ga ?BadSheet_gg ?BadSheet_hd ?BadSheet_ca ?BadSheet_ob ?i_BadSheet_init ?ti_BadSheet_init ?l_BadSheet_init ?c_BadSheet_init ?k_BadSheet_init ?BadSheet_no_part ?g_Misfit ?x_Misfit ?Misfit_sa ?Misfit_ex ?Misfit_ty ?Misfit_kp ?Misfit_ga ?Misfit_gg ?Misfit_hd ?Misfit_ca ?Misfit_ob ?i_Misfit_init ?ti_Misfit_init ?l_Misfit_init ?c_Misfit_init ?k_Misfit_init ?Misfit_no_part ?em_BadSheet ?em_Misfit ?kBT ?kBB ?kBF ?kFT ?kFB ?kFF ?kNT ?kNB ?kNF ?kSS ?kTS ?nfS ?nfT ?n_isinstance ?n_int ?n_bool ?n_list ?n_tuple ?n_len ?n_all ?n_set ?n_range ?n_sorted ?n_abs ?n_repr ?v_MOST_IN_SHEET
    (case a0 => k_is)
    (case l0 => k_is)
    (case c0 => k_is)
    (case k0 => k_is)
    (case a1 => k_is)
    (case l1 => k_is)
    (case c1 => k_is)
    (case k1 => k_is)
    (case a2 => k_is)
    (case l2 => k_is)
    (case c2 => k_is)
    (case k2 => k_is)
    (case a3 => k_is)
    (case l3 => k_is)
    (case c3 => k_is)
    (case k3 => k_is)
    (case a4 => k_is)
    (case l4 => k_is)
    (case c4 => k_is)
    (case k4 => k_is)
    (case a5 => k_is)
    (case l5 => k_is)
    (case c5 => k_is)
    (case k5 => k_is)
    (case a6 => k_is)
    (case l6 => k_is)
    (case c6 => k_is)
    (case k6 => k_is)
    (case a7 => k_is)
    (case l7 => k_is)
    (case c7 => k_is)
    (case k7 => k_is)
    (case a8 => k_is)
    (case l8 => k_is)
    (case c8 => k_is)
    (case k8 => k_is)
    (case a9 => k_is)
    (case l9 => k_is)
    (case c9 => k_is)
    (case k9 => k_is)
    (case a10 => k_is)
    (case l10 => k_is)
    (case c10 => k_is)
    (case k10 => k_is)
    (case a11 => k_is)
    (case l11 => k_is)
    (case c11 => k_is)
    (case k11 => k_is)
    (case a12 => k_is)
    (case l12 => k_is)
    (case c12 => k_is)
    (case k12 => k_is)
    (case a13 => k_is)
    (case l13 => k_is)
    (case c13 => k_is)
    (case k13 => k_is)
    (case a14 => k_is)
    (case l14 => k_is)
    (case c14 => k_is)
    (case k14 => k_is)
    (case q14 => k_is)
    (case p14 => rfl)
    (case h14 => kernel_rfl)
    (case n14 => kernel_rfl)
    (case t14 => exact tabs _ (by first | k_mem | simp))
    (case a15 => k_is)
    (case l15 => k_is)
    (case c15 => k_is)
    (case k15 => k_is)
    (case q15 => k_is)
    (case p15 => rfl)
    (case h15 => kernel_rfl)
    (case n15 => kernel_rfl)
    (case t15 => exact tabs _ (by first | k_mem | simp))
    (case u15_14 => decide)
    (case g_Sheet => k_is)
    (case Sheet_pg => k_is)
    (case Sheet_hd => k_is)
    (case Sheet_po => k_is)
    (case Sheet_sa => k_is)
    (case Sheet_mk => k_is)
    (case Sheet_kp => k_is)
    (case Sheet_ne => k_is)
    (case Sheet_ob => k_is)
    (case Sheet_ca => k_is)
    (case Sheet_no_right => k_is)
    (case Sheet_no_up => k_is)
    (case Sheet_no_corners => k_is)
    (case Sheet_no_many => k_is)
    (case i_Sheet_init => k_is)
    (case l_Sheet_init => k_is)
    (case c_Sheet_init => k_is)
    (case k_Sheet_init => k_is)
    (case e_Sheet_init => k_is)
    (case i_Sheet_eq => k_is)
    (case l_Sheet_eq => k_is)
    (case c_Sheet_eq => k_is)
    (case k_Sheet_eq => k_is)
    (case e_Sheet_eq => k_is)
    (case obj_g => k_is)
    (case obj_t => k_is)
    (case g_MirrorError => k_is)
    (case g_TooMany => k_is)
    (case g_BadSheet => k_is)
    (case x_BadSheet => k_is)
    (case BadSheet_sa => k_is)
    (case BadSheet_ex => k_is)
    (case BadSheet_ty => k_is)
    (case BadSheet_kp => k_is)
    (case BadSheet_ga => k_is)
    (case BadSheet_gg => k_is)
    (case BadSheet_hd => k_is)
    (case BadSheet_ca => k_is)
    (case BadSheet_ob => k_is)
    (case i_BadSheet_init => k_is)
    (case ti_BadSheet_init => k_is)
    (case l_BadSheet_init => k_is)
    (case c_BadSheet_init => k_is)
    (case k_BadSheet_init => k_is)
    (case BadSheet_no_part => k_is)
    (case g_Misfit => k_is)
    (case x_Misfit => k_is)
    (case Misfit_sa => k_is)
    (case Misfit_ex => k_is)
    (case Misfit_ty => k_is)
    (case Misfit_kp => k_is)
    (case Misfit_ga => k_is)
    (case Misfit_gg => k_is)
    (case Misfit_hd => k_is)
    (case Misfit_ca => k_is)
    (case Misfit_ob => k_is)
    (case i_Misfit_init => k_is)
    (case ti_Misfit_init => k_is)
    (case l_Misfit_init => k_is)
    (case c_Misfit_init => k_is)
    (case k_Misfit_init => k_is)
    (case Misfit_no_part => k_is)
    (case em_BadSheet => first | k_is | kernel_rfl)
    (case em_Misfit => first | k_is | kernel_rfl)
    (case kBT => first | k_is | kernel_rfl)
    (case kBB => first | k_is | kernel_rfl)
    (case kBF => first | k_is | kernel_rfl)
    (case kFT => first | k_is | kernel_rfl)
    (case kFB => first | k_is | kernel_rfl)
    (case kFF => first | k_is | kernel_rfl)
    (case kNT => first | k_is | kernel_rfl)
    (case kNB => first | k_is | kernel_rfl)
    (case kNF => first | k_is | kernel_rfl)
    (case kSS => first | k_is | kernel_rfl)
    (case kTS => first | k_is | kernel_rfl)
    (case nfS => first | k_is | kernel_rfl)
    (case nfT => first | k_is | kernel_rfl)
    (case n_isinstance => k_is)
    (case n_int => k_is)
    (case n_bool => k_is)
    (case n_list => k_is)
    (case n_tuple => k_is)
    (case n_len => k_is)
    (case n_all => k_is)
    (case n_set => k_is)
    (case n_range => k_is)
    (case n_sorted => k_is)
    (case n_abs => k_is)
    (case n_repr => k_is)
    (case v_MOST_IN_SHEET => k_is)

