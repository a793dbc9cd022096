import PyProof.Rows.All
import Wide.All
import OpenK.AllK
import Wide.FinOn
import HandS.ForMost
import HandS.Gcd
import HandS.Wide
import HandS.IsInst
import HandS.NoneIn
import HandS.DeepEq
import HandS.Flow
import HandS.Defaults
import KE.KDflt
import HandS.Lambda
import HandS.EndTab
import HandS.ExcInit
import HandS.ExcValue
import HandS.ExcIs
import HandS.TryMany
import HandS.ExcField
import HandS.SetFor
import HandS.Strs
import HandS.Zip
import HandS.OwnEq
import HandS.TupSets
import KE.KeyNested
import KE.KDictKeyed
import KE.SortData
import HandS.Deep
import HandS.WordsExc
import HandS.MakeKw
import KE.GoesEnum
import PyProof.Rows.RegFStrParts
import HandS.FStr
import HandS.Text
import PyProof.Rows.Range3
import PySem.Challenge.RW_neverhit_k06_open_sides_and_walls
set_option Elab.async false
set_option maxRecDepth 100000
namespace Nv
open PySem PySem.Spec PyProof.Rows L2

/-- (a, b, ..) = a list or a tuple of that length -/
def gSq (K : PySem.W.Frag) (n : Nat) (t : TGs) : TG := fun v σ H Q => ∃ a xs, v = .ref a ∧ (SqT K H a xs ∨ SqL K H a xs) ∧ xs.length = n ∧ t xs σ H Q
theorem pg_sq {X : Cx} {es : List Expr} {k : Nat} {t : TGs} {n : Nat} {pos : Pos} (hc : X.calm = true) (h : PGs X es t)
    (hn : (assignEach es X.env).length = n := by rfl) (hst : (assignEach es X.env).findIdx? (·.1) = none := by rfl) : PG X (.Tuple es k pos) (gSq X.K n t) := by
  refine ⟨fun pins s σ H v u Q I r hw => ?_⟩
  obtain ⟨a, xs, e1, hq, hl, hw⟩ := hw
  rcases hq with hq | hq
  · exact (pg_tup (k := k) (pos := pos) hc h hn hst).run pins s σ H v u Q I r ⟨a, xs, e1, hq, hl, hw⟩
  · exact (pg_unl (k := k) (pos := pos) hc h hn hst).run pins s σ H v u Q I r ⟨a, xs, e1, hq, hl, hw⟩

theorem Same.neu {p : Addr} {H : Hp} {o : HO} (h : H p = none) : Same H (upd H p o) := fun b u e => by
  rw [upd_ne (ne_of_none e h)]
  exact e
/-! displays and calls that lay a new object: the heap behind is told by what holds of it -/
def New (H : Hp) (o : HO) (Q : VK) : Prop := ∀ (p : Addr) (H' : Hp), H p = none → H' p = some o → Same H H' → Q (.ref p) H'
theorem New.old {H : Hp} {o : HO} {Q : VK} (h : New H o Q) : ∀ p, H p = none → Q (.ref p) (upd H p o) := fun p np => h p _ np upd_same (Same.neu np)
section
variable {X : Cx} {es : List Expr} {t : TA} {pos : Pos}
def tLstN (t : TA) : TE := fun σ H Q => t σ H fun xs H1 => xs.length ≤ sizeLine ∧ New H1 (.lst xs) Q
def tTupN (t : TA) : TE := fun σ H Q => t σ H fun xs H1 => xs.length ≤ sizeLine ∧ New H1 (.tup xs) Q
theorem pe_lstN (h : PA X es t) : PE X (.List es pos) (tLstN t) := by
  refine ⟨fun pins s σ H Q I due => wpAny_List_spliced (thn (h.run pos pins s σ H _ I due) fun us s1 ⟨xs, H1, I1, r, z, q⟩ => ⟨by rw [← r.length]; exact z, ?_⟩)⟩
  have fr : H1 s1.heap.objs.size = none := I1.hok.fresh (Nat.le_refl _)
  have I2 : Inv X pins σ (upd H1 s1.heap.objs.size (.lst xs)) { s1 with heap := s1.heap.push { cls := .type "list", data := .seq us.toArray } } :=
    I1.laid (t' := s1.toks) (fun b u e => Heap.get?_push_of_some _ e) (Nat.le_refl _) ⟨z, us, 0, r, Heap.get?_push_size _ rfl⟩
  exact ⟨.ref s1.heap.objs.size, _, I2, rfl, q.old _ fr⟩
theorem pe_tupN {x1} (h : PA X es t) : PE X (.Tuple es x1 pos) (tTupN t) := by
  refine ⟨fun pins s σ H Q I due => wpAny_Tuple_spliced (thn (h.run pos pins s σ H _ I due) fun us s1 ⟨xs, H1, I1, r, z, q⟩ => ⟨by rw [← r.length]; exact z, ?_⟩)⟩
  have fr : H1 s1.heap.objs.size = none := I1.hok.fresh (Nat.le_refl _)
  have I2 : Inv X pins σ (upd H1 s1.heap.objs.size (.tup xs)) { s1 with heap := s1.heap.push { cls := .type "tuple", data := .seq us.toArray } } :=
    I1.laid (t' := s1.toks) (fun b u e => Heap.get?_push_of_some _ e) (Nat.le_refl _) ⟨z, us, r, ⟨_, Heap.get?_push_size _ rfl, rfl, _, rfl⟩⟩
  exact ⟨.ref s1.heap.objs.size, _, I2, rfl, q.old _ fr⟩
def rCatN : R2 := fun x y H Q => ∃ l b xs zs, x = .ref l ∧ y = .ref b ∧ H l = some (.lst xs) ∧ H b = some (.lst zs) ∧ xs.length + zs.length ≤ sizeLine ∧ New H (.lst (xs ++ zs)) Q
theorem op_catN : OpR X (binaryOp .Add) rCatN := fun pins s σ H x y v u Q I rx ry ⟨l, b, xs, zs, e1, e2, h1, h2, hz, q⟩ => op_cat pins s σ H x y v u Q I rx ry ⟨l, b, xs, zs, e1, e2, h1, h2, hz, q.old⟩
def rSlLN (K : PySem.W.Frag) : V → Option Int → Option Int → Hp → VK → Prop := fun x lo hi H Q => ∃ a xs, x = .ref a ∧ SqL K H a xs ∧ New H (.lst (cutV xs lo hi)) Q
theorem sl_listN : SlR X (rSlLN X.K) := fun pins s σ H x v vl vu lo hi sl Q I rx hs pl pu ⟨a, xs, e, h, q⟩ => sl_list pins s σ H x v vl vu lo hi sl Q I rx hs pl pu ⟨a, xs, e, h, q.old⟩
def rTupN (K : PySem.W.Frag) : List V → Hp → VK → Prop := fun xs H Q => ∃ p ys, xs = [.ref p] ∧ ((SqL K H p ys ∧ New H (.tup ys) Q) ∨ (SqT K H p ys ∧ Q (.ref p) H))
theorem cr_tupN : CallR X (.type "tuple") (rTupN X.K) := fun pins s σ H xs us Q I r ⟨p, ys, e, h⟩ => call_tuple_of pins s σ H xs us Q I r ⟨p, ys, e, h.imp (fun ⟨a, q⟩ => ⟨a, q.old⟩) id⟩
def tDNewN : TE := fun _ H Q => New H (.dK []) Q
theorem pe_dnewN : PE X (.Dict [] [] pos) tDNewN := ⟨fun pins s σ H Q I h => pe_dnewK.run pins s σ H Q I fun p np => h.old p np⟩
end
/-! names stored: the slots behind are told by an equation -/
section
variable {X : Cx} {e a b : Expr} {te : TE} {ta : TA} {pos : Pos}
def gNameN (i : Nat) : TG := fun v σ H Q => ∀ σ' : L2.St, σ' = σ.set i (some v) → Q σ' H
theorem pg_nameN {i : Nat} {x : Str} (hN : X.N.Nodup) (hi : X.N[i]? = some x) (hx : Loc X.env.scope x) (hf : X.fn x = true ∨ X.env.scope.names.lookup x = some .local := by first | exact .inl rfl | exact .inr rfl | assumption) : PG X (.Name x pos) (gNameN i) :=
  ⟨fun pins s σ H v u Q I r h => (pg_name (pos := pos) hN hi hx hf).run pins s σ H v u Q I r (h _ rfl)⟩
theorem ps_setN {i : Nat} {x : Str} {pos' : Pos} (hN : X.N.Nodup) (hi : X.N[i]? = some x) (hx : Loc X.env.scope x) (he : PE X e te) (hs : swapsWith e (some (.Name x pos')) pos.line X.env = pure false := by rfl) (hf : X.fn x = true ∨ X.env.scope.names.lookup x = some .local := by first | exact .inl rfl | exact .inr rfl | assumption) :
    PS X (.Assign [.Name x pos'] e pos) (tAsg te (gNameN i)) :=
  ⟨fun pins s σ H D I h => wpAny_Assign_Name (thn (he.run pins s σ H _ I h) fun _ _ ⟨_, H1, I1, r1, q1⟩ => store_ok I1 hN hi hx r1 (fun _ I2 => ⟨_, H1, I2, q1 _ rfl⟩) hf) hs⟩
/-- what follows from what a list of arguments gives -/
def upA (ta : TA) : TA := fun σ H Q => ∃ Q0 : List V → Hp → Prop, ta σ H Q0 ∧ ∀ vs H', Q0 vs H' → Q vs H'
theorem pa_up {es : List Expr} (h : PA X es ta) : PA X es (upA ta) :=
  ⟨fun pos pins s σ H _ I ⟨Q0, q, w⟩ => thn (h.run pos pins s σ H Q0 I q) fun _ _ ⟨vs, H1, I1, r, q1⟩ => ⟨vs, H1, I1, r, w _ _ q1⟩⟩
theorem ps_wk {st : Stmt} {t u : TS} (h : PS X st t) (w : ∀ D σ H, u D σ H → t D σ H) : PS X st u := ⟨fun pins s σ H D I q => h.run pins s σ H D I (w D σ H q)⟩
def tParN (i j : Nat) (ta : TA) : TS := fun D σ H => ta σ H fun vs H1 => ∃ v w, vs = [v, w] ∧ ∀ σ' : L2.St, σ' = (σ.set i (some v)).set j (some w) → D.nx σ' H1
theorem ps_parN {i j : Nat} {x y : Str} {px py pt : Pos} {kt k2 pt2} (hc : X.calm = true) (hN : X.N.Nodup) (hi : X.N[i]? = some x) (hj : X.N[j]? = some y) (hij : i ≠ j)
    (hx : X.env.scope.names.lookup x = some .local) (hy : X.env.scope.names.lookup y = some .local) (ha : PA X [a, b] ta)
    (hw : swappedStores [.Tuple [.Name x px, .Name y py] kt pt] (.Tuple [a, b] k2 pt2) X.env = pure (some [x, y]))
    (hs : swapsWithSole [.Tuple [.Name x px, .Name y py] kt pt] (.Tuple [a, b] k2 pt2) pos.line X.env = pure false := by rfl) :
    PS X (.Assign [.Tuple [.Name x px, .Name y py] kt pt] (.Tuple [a, b] k2 pt2) pos) (tParN i j ta) :=
  ps_wk (ps_par hc hN hi hj hij hx hy (pa_up ha) hw hs) fun D σ H q => ⟨_, q, fun vs H' ⟨v, w, e1, k⟩ => ⟨v, w, e1, k _ rfl⟩⟩
end
/-! repr of plain data, where no repr is under way -/
def rRepr (K : PySem.W.Frag) : List V → Hp → VK → Prop := fun xs H Q => ∃ p d, xs = [.ref p] ∧ Dp K H (.ref p) d ∧ d.showable = true ∧ d.hasDict = false ∧ d.depth ≤ 60 ∧ d.shown.length ≤ sizeLine ∧ Q (.str d.shown) H
theorem cr_repr {X : Cx} (hg : X.A.guards = some []) (hu : X.A.units + 70 < cLine) : CallR X (.builtin "repr") (rRepr X.K) := by
  intro pins s σ H xs us Q I r h
  obtain ⟨p, d, rfl, hd, hs, hn, hp, hz, q⟩ := h
  cases r with
  | cons r1 r2 =>
    cases r2
    cases r1
    obtain ⟨as, rd⟩ := Dp.reads I d _ _ hd rfl
    refine repr_of_reads' rd hs (fun z => ?_) hg (by omega) (fun _ _ e => e) (fun h' u tk hk => ?_) hz
    · rw [hn] at z; cases z
    · exact ⟨.str d.shown, H, I.kept hk, ⟨u, rfl⟩, q⟩

/-- a != b of two lists of the same items -/
def rNeSame (K : PySem.W.Frag) : R2 := fun x y H Q => ∃ a b xs, x = .ref a ∧ y = .ref b ∧ SqL K H a xs ∧ SqL K H b xs ∧ (∀ z ∈ xs, (∃ c, z = .ref c) ∨ flatB z = true) ∧ Q (.bl false) H
theorem op_neSame {X : Cx} (hu : X.A.units + 2 < cLine) :
    OpR X (compareOp .NotEq) (rNeSame X.K) := by
  intro pins s σ H x y v u Q I rx ry h
  obtain ⟨a, b, xs, rfl, rfl, ha, hb, hf, q⟩ := h
  cases rx
  cases ry
  obtain ⟨us, r1, p1, _⟩ := I.list ha
  obtain ⟨ws, r2, p2, _⟩ := I.list hb
  have hsz : us.toArray.size = ws.toArray.size := by
    rw [List.size_toArray, List.size_toArray, ← r1.length, ← r2.length]
  have hlen := r1.length
  have hit : ∀ j (h1 : j < us.toArray.size) (h2 : j < ws.toArray.size), SeqAt.EqAt X.A.in1 s us.toArray[j] ws.toArray[j] ((fun _ => true) j) := fun j h1 h2 => by
    have l1 : j < us.length := by simpa using h1
    have l2 : j < ws.length := by simpa using h2
    have l0 : j < xs.length := by omega
    obtain ⟨u1, e1, q1⟩ := r1.get (List.getElem?_eq_getElem l0)
    obtain ⟨u2, e2, q2⟩ := r2.get (List.getElem?_eq_getElem l0)
    have g1 : us[j] = u1 := by
      rw [List.getElem?_eq_getElem l1] at e1
      exact Option.some.inj e1
    have g2 : ws[j] = u2 := by
      rw [List.getElem?_eq_getElem l2] at e2
      exact Option.some.inj e2
    show SeqAt.EqAt X.A.in1 s us[j] ws[j] true
    rw [g1, g2]
    rcases hf _ (List.getElem_mem l0) with ⟨c, e⟩ | f
    · rw [e] at q1 q2
      cases q1
      cases q2
      exact SeqAt.EqAt.same _
    · exact eqAt_same q1 q2 f
  have fin := SeqAt.RcNeAt.lists (e := fun _ => true) p1.isList p2.isList hsz (by omega) hit X.prog X.w X.xe (EP X pins σ Q)
  refine fin ?_
  have e : (!(List.range us.toArray.size).all fun _ => true) = false := by
    rw [List.all_eq_true.mpr fun _ _ => rfl]
    rfl
  rw [e]
  exact ⟨.bl false, H, I, rfl, q⟩

/-! ### a def's promise where no guard is under way -/
structure FnG (P : Program) (w : World) (K : PySem.W.Frag) (mg : Str → Option Value) (base : Heap) (k : Nat) (f : Addr) (fd : FuncData) (ps : List Str) (sp : Sp) : Prop where
  arity : ∀ vs H Q E, sp vs H Q E → vs.length = ps.length
  go : ∀ (A : Around) (fr : List Env) (s : Shared) (H : Hp) (ar : Args) (us : List Value) (vs : List V) (Q : VK) (E : XK), A.guards = some [] → Room k A → Env0 P w K mg base A fr s H →
    BindsTo s fd ar (ps.zip us) → Vals vs us → sp vs H Q E → codeAny (model P w) A (.call (.ref f) ar) (CR CX0 fr P w H s Q E) s
theorem FnG.of {P : Program} {w : World} {K : PySem.W.Frag} {mg : Str → Option Value} {base : Heap} {x qual : Str} {st : Stmt} {f : Addr} {fd : FuncData} {N ps : List Str} {k : Nat} {sp : Sp}
    (F : Fun K x qual st f fd) (S : FnScope N ps (defScope st)) (ar : ∀ vs H Q E, sp vs H Q E → vs.length = ps.length)
    (walk : ∀ (cdv : Value) (A : Around) (fr : List Env) (s : Shared) (H : Hp) (vs : List V) (Q : VK) (E : XK), A.guards = some [] → Room k (A.deeper (envOfC qual (defScope st) s.heap.objs.size f cdv)) → sp vs H Q E →
      ∃ t, PSs (cxOf CX0 P w K mg base N qual (defScope st) f cdv A fr s H E).nox (defBody st) t ∧ t { nx := fun _ H' => Q .non H', rt := Q } (start N vs) H) : FnG P w K mg base (k + 1) f fd ps sp := by
  obtain ⟨c1, c2, kV, c3, c4, c5, cdv, c6, c7, rfl, lkp, cod⟩ := F.ex
  refine ⟨ar, fun A fr s H ag us vs Q E hG room env0 bnd r due => ?_⟩
  have cnt := ar _ _ _ _ due
  have inK : K.In s.heap := env0.mod.kin.keeps fun b o e => (env0.bs b o e).1
  have noL : s.heap.NoLimit := env0.mod.nolimit.keeps fun b o e => (env0.bs b o e).1
  have kinds : ∀ y ∈ ps.zip us, (defScope st).names.lookup y.1 = some .local ∨ ((defScope st).names.lookup y.1 = some .cell ∧ ((cellsFrom (s.heap.objs.size + 1) (defScope st).names []).lookup y.1).isSome = true) := fun ⟨n, v⟩ hy => by
    rcases S.par n (List.of_mem_zip hy).1 with c | c
    · exact .inl c
    · exact .inr ⟨c, PySem.W.cellsFrom_some _ _ _ (.inl c)⟩
  refine codeAny_call_function room.depth (inK _ _ lkp) rfl S.co S.gen rfl (PySem.W.codeRec_of inK cod) (bnd _ _ _ _ ?_)
  refine wpAny_newFunctionEnv_cells S.kind kinds fun env ee s1 xx => ?_
  subst ee
  refine ⟨noL.keeps xx.toInCall.keep, codeAny_func ?_⟩
  obtain ⟨t, ht, hq⟩ := walk cdv A fr s H vs Q E hG (room.deeper _) due
  have I : Inv (cxOf CX0 P w K mg base N qual (defScope st) f cdv A fr s H E) [] (start N vs) H s1 := inv_start S room.hd env0 cnt r xx
  refine wpAny_mono (ht.nox.run [] s1 (start N vs) H _ I hq) (fun fl s' hs => ?_) fun e s' hs => hs
  have done : ∀ {σ' : L2.St} {H' : Hp} {v : V} {u : Value}, Inv (cxOf CX0 P w K mg base N qual (defScope st) f cdv A fr s H E) [] σ' H' s' → RelV v u → Q v H' → CE fr P w H s Q u s' :=
    fun {σ' H' v u} J rv q => ⟨v, H', J.os, J.bare, J.base, J.hok, rv, q⟩
  cases fl with
  | brk =>
    obtain ⟨_, _, _, q⟩ := hs
    exact q.elim
  | cont =>
    obtain ⟨_, _, _, q⟩ := hs
    exact q.elim
  | next =>
    obtain ⟨σ', H', J, q⟩ := hs
    exact done (v := V.non) (u := Value.none) J rfl q
  | ret u =>
    obtain ⟨v, σ', H', J, rv, q⟩ := hs
    exact done J rv q

/-- f(k = v, ..), no positional argument -/
theorem pe_kw0 {X : Cx} {CX : CXT} {k : Nat} {f : Addr} {fd : FuncData} {ps ks : List Str} {sp : Sp} {E : XK} {x : Str} {p pos : Pos} {kws : List Keyword} {tk : TA} {g : List Value → List Value → List Value} {gV : List V → List V → List V}
    (F : FnOk X.prog X.w X.K X.mg X.base CX k f fd ps sp) (room : Room k X.A) (glo : Gl X x) (at_ : X.mg x = some (.ref f)) (kp : PySem.W.keepIn X.K (.ref f) = true) (bnd : KBn X.K fd ps 0 ks g gV) (out : Passes CX X E)
    (hkw : PK X kws tk) (named : (backToKw pos (keywordEach kws X.env)).all (·.1.isSome) = true := by rfl) (names : (backToKw pos (keywordEach kws X.env)).filterMap (·.1) = ks := by rfl)
    (nodbg : (x == ("__debug__" : Str)) = false := by decide) (nostar : ((backTo pos (starEach [] X.env)).any (·.1) || (backToKw pos (keywordEach kws X.env)).any (·.1.isNone)) = false := by rfl) :
    PE X (.Call (.Name x p) [] kws pos) (tCallN 0 ks.length sp gV E tNil tk) := by
  refine ⟨fun pins s σ H Q I h => wpAny_Call_Name_kw (ld_glob I glo at_ (PySem.W.callWith_KW0 (h₀ := X.base) I.ok.mod.kin kp named ?_ nostar) nodbg)⟩
  refine thn (hkw.run pos pins s σ H _ I h) fun ws s2 ⟨zs, H2, I2, rz, l1, l2, q2⟩ => ⟨I2.kIn, ?_⟩
  rw [names]
  exact run_fnN (us := []) (vs := []) F room bnd out I2 .nil rz rfl l2 q2

/-! ### the law's call where its def's promise is one of FnG -/
section
variable {P : Program} {w : World} {K : PySem.W.Frag} {mg mb : Str → Option Value} {k : Nat} {fa a : Addr} {fd : FuncData} {x : Str} {sp : Sp} {s1 : Shared} {vs : List Value} {ns : List Int}
/-- the end of a law's run -/
def LawEnd (s1 : Shared) (r : Result) (s' : Shared) : Prop := r = .ok (.ret (.bool true)) ∧ OldK s1.heap s'.heap ∧ s'.os = s1.os ∧ AllBare s'.gens
theorem callG (inK : K.In s1.heap) (gns : s1.heap.Ns mainGlobals mg) (bns : s1.heap.Ns builtinsNs mb) (bbo : ∀ x : Str, x ≠ "__name__" → mb x = bootBuiltins x) (nol : s1.heap.NoLimit) (nog : s1.gens = #[])
    (scr : s1.heap.get? a = some { cls := .type "list", data := .seq vs.toArray }) (nums : IntsAre vs ns) (len : ns.length ≤ sizeLine) (room : Room k callerA)
    (F : ∀ base : Heap, K.In base → base.Ns mainGlobals mg → FnG P w K mg base k fa fd [x] sp) (bnd : ∀ (s : Shared) (u : Value), BindsTo s fd ⟨[u], []⟩ [(x, u)])
    (due : ∀ H : Hp, Only H → SqL K H a (ns.map V.int) → sp [.ref a] H (fun v _ => v = .bl true) fun _ _ _ => False) :
    codeAny (model P w) callerA (.call (.ref fa) ⟨[.ref a], []⟩) (LawEnd s1) s1 := by
  have rel := vals_ints nums
  have cnt := nums.length
  have main : ∀ H : Hp, Only H → SqL K H a (ns.map V.int) → HOk P w H s1.heap → (∀ b, H b ≠ none → b = a) → (H a ≠ none → K.lookup a = none) →
      codeAny (model P w) callerA (.call (.ref fa) ⟨[.ref a], []⟩) (LawEnd s1) s1 := by
    intro H only seq okH onlyA notK
    have isA : ∀ {b : Addr} {u : HO}, H b = some u → b = a := fun {b u} e => onlyA b (by rw [e]; simp)
    have low : ∀ {b : Addr} {o : Obj}, s1.heap.get? b = some o → H b = none → (hidT s1.heap H).get? b = some o := fun g n => hidT_get g n
    have dictFree : ∀ {b : Addr} {o : Obj} {es : Array DictEntry} {ep : Nat}, s1.heap.get? b = some o → o.data = .dict es ep → H b = none := fun {b o es ep} g d => by
      cases c : H b with
      | none => rfl
      | some u =>
        obtain rfl := isA c
        rw [scr] at g
        cases g
        cases (show Data.seq vs.toArray _ = Data.dict es ep from d)
    have lowNs : ∀ {b : Addr} {m : Str → Option Value}, s1.heap.Ns b m → (hidT s1.heap H).Ns b m := fun {b m} ⟨o, es, ep, g, d, r⟩ => ⟨o, es, ep, low g (dictFree g d), d, r⟩
    have lowK : K.In (hidT s1.heap H) := fun b o e => low (inK b o e) (by
      cases c : H b with
      | none => rfl
      | some u =>
        obtain rfl := isA c
        rw [notK (by rw [c]; simp)] at e
        cases e)
    have modu : Mod K mg (hidT s1.heap H) := ⟨lowK, lowNs gns, ⟨mb, lowNs bns, bbo⟩, let ⟨mc, c1, c2⟩ := nol; ⟨mc, lowNs c1, c2⟩⟩
    have env0 : Env0 P w K mg (hidT s1.heap H) callerA [] s1 H := ⟨rfl, modu, fun b o e => of_hidT e, Nat.le_of_eq (hidT_size _ _), trivial, fun b hb => absurd (show b ∈ ([] : List Addr) from hb) (by simp), okH, .of_eq nog⟩
    refine codeAny_mono ((F _ lowK (lowNs gns)).go callerA [] s1 H ⟨[.ref a], []⟩ [.ref a] [.ref a] _ _ rfl room env0 (bnd s1 (.ref a)) (.cons rfl .nil) (due H only seq)) fun r s' h => ?_
    cases r with
    | error e => exact False.elim h
    | ok fl =>
      cases fl with
      | brk => exact False.elim h
      | cont => exact False.elim h
      | next => exact False.elim h
      | ret u =>
        obtain ⟨v, H', sameOs, bare', unt, okH', rl, good⟩ := h
        obtain rfl : v = .bl true := good
        obtain rfl : u = Value.bool true := rl
        refine ⟨rfl, OldK.of_keep fun b o g => ?_, sameOs, bare'⟩
        cases c : H b with
        | none => exact unt.keep b o g c (by intro z; exact absurd (show b ∈ ([] : List Addr) from z) (by simp)) (by simp)
        | some u =>
          rcases only b with z | ⟨ob, xs, z⟩
          · rw [c] at z; cases z
          · obtain ⟨g1, _⟩ := okH b _ z
            obtain ⟨g2, _⟩ := okH' b _ (unt.frzs b ob _ z)
            rw [g] at g1; cases g1
            exact g2
  cases inn : K.lookup a with
  | some o =>
    have g := inK a o inn
    rw [scr] at g
    cases g
    refine main (fun _ => none) (fun _ => .inl rfl) (.inr ⟨_, vs.toArray, _, inn, rfl, rfl, rfl, by rw [List.size_toArray, cnt]; exact len, by simpa using rel⟩) (fun b u z => ?_) (fun b z => absurd rfl z) fun z => absurd rfl z
    cases (show (none : Option HO) = some u from z)
  | none =>
    refine main (fun b => if b = a then some (.frz { cls := .type "list", data := .seq vs.toArray } (.lst (ns.map V.int))) else none) (fun b => ?_) (.inl (.inr ⟨{ cls := .type "list", data := .seq vs.toArray }, if_pos rfl⟩)) (fun b u z => ?_) (fun b z => ?_) fun _ => inn
    · by_cases e : b = a
      · exact .inr ⟨_, _, if_pos e⟩
      · exact .inl (if_neg e)
    · by_cases e : b = a
      · have z2 := (if_pos e).symm.trans z
        cases z2
        subst e
        exact ⟨scr, by rw [List.length_map]; exact len, vs, _, rel, scr⟩
      · have z2 := (if_neg e).symm.trans z
        cases z2
    · by_cases e : b = a
      · exact e
      · exact absurd (if_neg e) z
end
theorem walkG {l : PySem.W.OpenLaw} {n k : Nat} {q : Program} {loose : List Str} {XP : (Str → Option Value) → Heap → Prop} {YP : World → Heap → Prop} {d : DefRec} {K : Params → PySem.W.Frag} {sp : World → Sp} {x : Str}
    (most : l.most = some n) (small : n ≤ sizeLine) (nodef : d.params.defaults = []) (room : Room k callerA) (inK : ∀ (w : World) (h : Heap), YP w h → (K w.params).In h)
    (F : ∀ (w : World) (mg : Str → Option Value) (fa : Addr) (h : Heap), (K w.params).In h → h.Ns mainGlobals mg → mg d.name = some (.ref fa) →
      ∃ fd : FuncData, (∀ (s : Shared) (u : Value), BindsTo s fd ⟨[u], []⟩ [(x, u)]) ∧ ∀ base : Heap, (K w.params).In base → base.Ns mainGlobals mg → FnG l.prog w (K w.params) mg base k fa fd [x] (sp w))
    (due : ∀ (w : World) (H : Hp) (a : Addr) (ns : List Int), ns.length ≤ n → Only H → SqL (K w.params) H a (ns.map V.int) → sp w [.ref a] H (fun v _ => v = .bl true) fun _ _ _ => False) :
    PySem.W.WalkO q loose XP YP l.row.toRowW d [] (fun f vs => PySem.call f vs) := by
  refine Att.attach_call most nodef fun w s0 s1 mg mb fa o pm cd doc a vs ns G Y hobj _ _ hmg scr nums len nog => ?_
  obtain ⟨fd, bnd, ok⟩ := F w mg fa _ (inK w _ Y) G.T.g hmg
  exact callG (inK w _ Y) G.T.g G.T.b G.T.builtins G.T.nolimit nog scr nums (Nat.le_trans len small) room ok bnd fun H only seq => due w H a ns len only seq
end Nv

set_option maxRecDepth 100000
set_option maxHeartbeats 4000000
namespace Nv
open PySem PySem.Spec PyProof.Rows L2
/-! values by their shapes -/
inductive Sh where
  | non | bl (b : Bool) | int (i : Int) | str (z : Str) | lst (xs : List V) | tup (xs : List V) | dic
inductive Is (H : Hp) : V → Sh → Prop where
  | non : Is H .non .non
  | bl (b : Bool) : Is H (.bl b) (.bl b)
  | int (i : Int) : Is H (.int i) (.int i)
  | str (z : Str) : Is H (.str z) (.str z)
  | lst {a : Addr} {xs : List V} (e : H a = some (.lst xs)) : Is H (.ref a) (.lst xs)
  | tup {a : Addr} {xs : List V} (e : H a = some (.tup xs)) : Is H (.ref a) (.tup xs)
  | dic {a : Addr} {kvs : List (Key × V)} (e : H a = some (.dK kvs)) : Is H (.ref a) .dic
def Kn (H : Hp) (x : V) : Prop := ∃ s, Is H x s
theorem Is.up {H H' : Hp} {x : V} {s : Sh} (h : Is H x s) (e : Same H H') : Is H' x s := by
  cases h with
  | non => exact .non
  | bl b => exact .bl b
  | int i => exact .int i
  | str z => exact .str z
  | lst q => exact .lst (e _ _ q)
  | tup q => exact .tup (e _ _ q)
  | dic q => exact .dic (e _ _ q)
theorem Kn.up {H H' : Hp} {x : V} (h : Kn H x) (e : Same H H') : Kn H' x := let ⟨s, q⟩ := h; ⟨s, q.up e⟩
def tyN : Sh → String
  | .non => "NoneType" | .bl _ => "bool" | .int _ => "int" | .str _ => "str" | .lst _ => "list" | .tup _ => "tuple" | .dic => "dict"
theorem Is.ty {K : PySem.W.Frag} {H : Hp} {x : V} {s : Sh} (h : Is H x s) : TyX K H x (.type (tyN s)) := by
  cases h with
  | non => exact .base .non
  | bl b => exact .base (.bl b)
  | int i => exact .base (.int i)
  | str z => exact .base (.str z)
  | lst q => exact .base (.lst q)
  | tup q => exact .base (.tup q)
  | dic q => exact .base (.dK q)
def isI : V → Bool
  | .int _ => true
  | _ => false
def isInt : Sh → Bool
  | .int _ => true
  | _ => false
theorem Is.isI {H : Hp} {x : V} {s : Sh} (h : Is H x s) : Nv.isI x = isInt s := by cases h <;> rfl
def rowOf : Sh → Option (List V)
  | .lst xs => some xs
  | .tup xs => some xs
  | _ => none
def kI : Sh → Bool
  | .bl _ => true
  | .int _ => true
  | _ => false
def kB : Sh → Bool
  | .bl _ => true
  | _ => false
theorem kit_int (s : Sh) : kitB (tyN s) "int" = some (kI s) := by cases s <;> (dsimp only [tyN, kI]; decide +kernel)
theorem kit_bool (s : Sh) : kitB (tyN s) "bool" = some (kB s) := by cases s <;> (dsimp only [tyN, kB]; decide +kernel)
theorem kit_list (s : Sh) : kitB (tyN s) "list" = some (match s with | .lst _ => true | _ => false) := by cases s <;> (dsimp only [tyN]; decide +kernel)
theorem kit_tuple (s : Sh) : kitB (tyN s) "tuple" = some (match s with | .tup _ => true | _ => false) := by cases s <;> (dsimp only [tyN]; decide +kernel)

theorem ifb {b : Bool} {A B : Prop} (h1 : b = true → A) (h2 : b = false → B) : if b = true then A else B := by
  cases b with
  | true => exact iteT (h1 rfl)
  | false => exact iteF (h2 rfl)
def bV : Option Int → V
  | none => .non
  | some i => .int i
def geO (v : Int) : Option Int → Bool
  | none => true
  | some l => decide (l ≤ v)
def leO (v : Int) : Option Int → Bool
  | none => true
  | some h => decide (v ≤ h)
def wIn (x : V) (lo hi : Option Int) : Bool := match x with
  | .int v => geO v lo && leO v hi
  | _ => false
section
variable {K : PySem.W.Frag}
theorem Is.row {H : Hp} {x : V} {s : Sh} {xs : List V} (h : Is H x s) (e : rowOf s = some xs) : ∃ a, x = .ref a ∧ (SqT K H a xs ∨ SqL K H a xs) := by
  cases h with
  | lst q => cases e; exact ⟨_, rfl, .inr (SqL.of q)⟩
  | tup q => cases e; exact ⟨_, rfl, .inl (SqT.of q)⟩
  | non => cases e
  | bl b => cases e
  | int b => cases e
  | str b => cases e
  | dic b => cases e
theorem ix_row {H : Hp} {a : Addr} {xs : List V} {i : Int} {v : V} {Q : VK} (h : SqT K H a xs ∨ SqL K H a xs) (e : atI xs i = some v) (q : Q v H) : rIx K (.ref a) (.int i) H Q := by
  rcases h with h | h
  · exact .inr (.inl ⟨a, xs, i, v, rfl, rfl, h, e, q⟩)
  · exact .inl ⟨a, xs, i, v, rfl, rfl, h, e, q⟩
end
/-- a def of the top by its name -/
structure Df (K : PySem.W.Frag) (mg : Str → Option Value) (x : Str) (st : Stmt) (ps : List Str) (f : Addr) (fd : FuncData) : Prop where
  F : Fun K x x st f fd
  m : mg x = some (.ref f)
  b : Binds K fd ps []

section
variable {K : PySem.W.Frag}
def spInt : Sp := fun vs H Q _ => ∃ x, vs = [x] ∧ Kn H x ∧ Q (.bl (isI x)) H
def spWithin : Sp := fun vs H Q _ => ∃ x lo hi, vs = [x, bV lo, bV hi] ∧ Kn H x ∧ Q (.bl (wIn x lo hi)) H
def spRow : Sp := fun vs H Q _ => ∃ x s, vs = [x] ∧ Is H x s ∧ ∀ H', Same H H' → Q (.bl (rowOf s).isSome) H'
end
end Nv

set_option maxRecDepth 100000
set_option maxHeartbeats 4000000
namespace Nv
open PySem PySem.Spec PyProof.Rows L2
/-! ### draws: the lantern is a list of the cells' list and two numbers -/
def Keep (L : Addr) (H H' : Hp) : Prop := ∀ b o, b ≠ L → H b = some o → H' b = some o
theorem Keep.trans {L : Addr} {H H1 H2 : Hp} (a : Keep L H H1) (b : Keep L H1 H2) : Keep L H H2 := fun c o n h => b c o n (a c o n h)
theorem Keep.refl (L : Addr) (H : Hp) : Keep L H H := fun _ _ _ h => h
theorem Keep.new {L p : Addr} {H : Hp} {o : HO} (h : H p = none) : Keep L H (upd H p o) := fun b u _ e => by
  rw [upd_ne (ne_of_none e h)]
  exact e
theorem Same.keep {L : Addr} {H H' : Hp} (h : Same H H') : Keep L H H' := fun b o _ e => h b o e
theorem Same.new {p : Addr} {H : Hp} {o : HO} (h : H p = none) : Same H (upd H p o) := fun b u e => by
  rw [upd_ne (ne_of_none e h)]
  exact e
/-- the cells' list at l, the turn, the rest -/
structure Lan (H : Hp) (L l : Addr) (cs : List Int) (t : Nat) : Prop where
  ex : ∃ (turn rest : Int), H L = some (.lst [.ref l, .int turn, .int rest]) ∧ H l = some (.lst (cs.map V.int)) ∧ l ≠ L ∧ cs.length ≤ 60 ∧ 0 ≤ turn ∧ turn ≤ t
theorem Lan.same {H H' : Hp} {L l : Addr} {cs : List Int} {t : Nat} (a : Lan H L l cs t) (e : Same H H') : Lan H' L l cs t := by
  obtain ⟨u, r, h1, h2, h3⟩ := a.ex
  exact ⟨u, r, e _ _ h1, e _ _ h2, h3⟩
theorem Lan.ne {H : Hp} {L l : Addr} {cs : List Int} {t : Nat} (a : Lan H L l cs t) : ∃ o, H L = some o := by
  obtain ⟨u, r, h1, h2, h3⟩ := a.ex
  exact ⟨_, h1⟩
theorem Lan.cells {H : Hp} {L l : Addr} {cs : List Int} {t : Nat} (a : Lan H L l cs t) : H l = some (.lst (cs.map V.int)) := by
  obtain ⟨u, r, h1, h2, h3⟩ := a.ex
  exact h2
theorem Lan.more {H : Hp} {L l : Addr} {cs : List Int} {t u : Nat} (a : Lan H L l cs t) (h : t ≤ u) : Lan H L l cs u := by
  obtain ⟨turn, rest, h1, h2, h3, h4, h5, h6⟩ := a.ex
  exact ⟨turn, rest, h1, h2, h3, h4, h5, by omega⟩
theorem Lan.apart {H : Hp} {L l p : Addr} {cs : List Int} {t : Nat} (a : Lan H L l cs t) (np : H p = none) : p ≠ L ∧ p ≠ l := by
  obtain ⟨o, e⟩ := a.ne
  exact ⟨(ne_of_none e np).symm, (ne_of_none a.cells np).symm⟩
theorem Lan.upd {H : Hp} {L l p : Addr} {cs : List Int} {t : Nat} {o : HO} (a : Lan H L l cs t) (h1 : p ≠ L) (h2 : p ≠ l) : Lan (L2.upd H p o) L l cs t := by
  obtain ⟨turn, rest, g1, g2, g3⟩ := a.ex
  exact ⟨turn, rest, by rw [upd_ne h1.symm]; exact g1, by rw [upd_ne h2.symm]; exact g2, g3⟩
theorem shaped_ints (cs : List Int) : SeqAt.shaped (.list (cs.map PyData.int)) = true := by
  have h1 : PyData.canLayAll0 (cs.map PyData.int) = true := by
    induction cs with
    | nil => rfl
    | cons c r ih =>
      show (PyData.canLay0 (.int c) && PyData.canLayAll0 (r.map PyData.int)) = true
      rw [ih]; rfl
  have h2 : PyData.depthAll (cs.map PyData.int) = 0 := by
    induction cs with
    | nil => rfl
    | cons c r ih =>
      show max (PyData.depth (.int c)) (PyData.depthAll (r.map PyData.int)) = 0
      rw [ih]
      · rfl
      · have z := (Bool.and_eq_true_iff.mp (show (PyData.canLay0 (.int c) && PyData.canLayAll0 (r.map PyData.int)) = true from h1)).2
        exact z
  have e1 : PyData.canLay0 (.list (cs.map PyData.int)) = true := by
    simp only [PyData.canLay0]
    exact h1
  have e2 : PyData.depth (.list (cs.map PyData.int)) = 1 := by
    simp only [PyData.depth]
    rw [h2]
  unfold SeqAt.shaped
  rw [e1, e2]
  rfl
theorem dpAll_ints {K : PySem.W.Frag} {H : Hp} : ∀ cs : List Int, DpAll K H (cs.map V.int) (cs.map PyData.int)
  | [] => .nil
  | c :: r => .cons (.int c) (dpAll_ints r)
theorem eqv_nil (cs : List Int) : PyData.eqv (.list (cs.map PyData.int)) (.list []) = cs.isEmpty := by
  cases cs with
  | nil => simp [PyData.eqv, PyData.eqvAll]
  | cons c r => simp [PyData.eqv, PyData.eqvAll]
theorem at_mod {cs : List Int} (h : cs ≠ []) (t : Int) : ∃ c, atI (cs.map V.int) (t % ((cs.map V.int).length : Int)) = some (.int c) := by
  have hl : 0 < cs.length := List.length_pos_iff.mpr h
  have h1 := Int.emod_nonneg t (show ((cs.length : Nat) : Int) ≠ 0 by omega)
  have h2 := Int.emod_lt_of_pos t (show (0 : Int) < ((cs.length : Nat) : Int) by omega)
  rw [List.length_map]
  obtain ⟨j, ej⟩ : ∃ j : Nat, t % ((cs.length : Nat) : Int) = (j : Int) := ⟨(t % ((cs.length : Nat) : Int)).toNat, by omega⟩
  have hj : j < cs.length := by omega
  refine ⟨cs[j], ?_⟩
  rw [ej]
  refine atI_nat ?_
  rw [List.getElem?_map, List.getElem?_eq_getElem hj]
  rfl
theorem abs_if (c : Int) : (if c < 0 then -c else c) = (c.natAbs : Int) := by
  split <;> omega

theorem posm {m : Int} (h : 0 < m) : 0 < m := h
theorem mul_le_ {a t : Int} (ha : 0 ≤ a) (ha2 : a ≤ 200000) (h0 : 0 ≤ t) (h1 : t ≤ 1000000) : 0 ≤ a * t ∧ a * t ≤ 200000000000 := by
  refine ⟨Int.mul_nonneg ha h0, ?_⟩
  have := Int.mul_le_mul ha2 h1 h0 (by decide)
  omega
theorem pow5 {c m a b t e : Int} (hm : 0 < m) (hm2 : m ≤ 4294967296) (ha : 0 ≤ a) (ha2 : a ≤ 200000) (hb : 0 ≤ b) (hb2 : b ≤ 200000 ∧ 0 ≤ e ∧ e ≤ 1000000) (h0 : 0 ≤ t) (h1 : t ≤ 1000000) : CPow (c % m + a * t + b) e := by
  have p1 := Int.emod_nonneg c (show m ≠ 0 by omega)
  have p2 := Int.emod_lt_of_pos c hm
  obtain ⟨p3, p4⟩ := mul_le_ ha ha2 h0 h1
  refine ⟨hb2.2.1, hb2.2.2, ?_⟩
  omega
theorem mul5 {x m y : Int} (hm : 0 < m) (hm2 : m ≤ 4294967296) : CMul (x % m) y := by
  have p1 := Int.emod_nonneg x (show m ≠ 0 by omega)
  have p2 := Int.emod_lt_of_pos x hm
  exact .inl ⟨by omega, by omega⟩
theorem mul6 {a t y : Int} (ha : 0 ≤ a) (ha2 : a ≤ 200000) (h0 : 0 ≤ t) (h1 : t ≤ 1000000) : CMul (a * t) y := by
  obtain ⟨p3, p4⟩ := mul_le_ ha ha2 h0 h1
  exact .inl ⟨by omega, by omega⟩
theorem pow3 {x m a b c d t e : Int} (hm : 0 < m) (hm2 : m ≤ 4294967296) (ha : 0 ≤ a) (ha2 : a ≤ 2) (hb : 0 ≤ b) (hb2 : b ≤ 200000) (hc : 0 ≤ c) (hc2 : c ≤ 200000) (hd : 0 ≤ d) (hd2 : d ≤ 200000 ∧ 0 ≤ e ∧ e ≤ 1000000) (h0 : 0 ≤ t) (h1 : t ≤ 1000000) :
    CPow (x % m * (a * t + b) + c * t * t + d) e := by
  have p1 := Int.emod_nonneg x (show m ≠ 0 by omega)
  have p2 := Int.emod_lt_of_pos x hm
  have a1 : 0 ≤ a * t := Int.mul_nonneg ha h0
  have a2 := Int.mul_le_mul ha2 h1 h0 (by decide)
  obtain ⟨p3, p4⟩ := mul_le_ hc hc2 h0 h1
  have b1 : 0 ≤ x % m * (a * t + b) := Int.mul_nonneg p1 (by omega)
  have b2 := Int.mul_le_mul (show x % m ≤ 4294967296 by omega) (show a * t + b ≤ 2200000 by omega) (by omega) (by decide)
  have c1 : 0 ≤ c * t * t := Int.mul_nonneg p3 h0
  have c2 := Int.mul_le_mul p4 h1 h0 (by decide)
  refine ⟨hd2.2.1, hd2.2.2, ?_⟩
  omega
def spFlick : Sp := fun vs H Q _ => ∃ (L : Addr) (n : Int) (t : Nat) (l : Addr) (cs : List Int), vs = [.ref L, .int n] ∧ 0 < n ∧ n.natAbs.log2 < 9000 ∧ Lan H L l cs t ∧ t ≤ 1000000 ∧
  ∀ (H' : Hp) (r : Int), Keep L H H' → Lan H' L l cs (t + 1) → 0 ≤ r → r < n → Q (.int r) H'
def spLantern (K : PySem.W.Frag) : Sp := fun vs H Q _ => ∃ (a : Addr) (ns : List Int), vs = [.ref a] ∧ SqL K H a (ns.map V.int) ∧ ns.length ≤ 63 ∧ ∀ (H' : Hp) (L l : Addr) (cs : List Int), Same H H' → H L = none → H l = none → Lan H' L l cs 0 → Q (.ref L) H'
theorem cut60 (xs : List V) : cutV xs none (some 60) = xs.take 60 := by
  unfold cutV
  rw [HT.sIx_none, show HT.sIx xs.length xs.length (some 60) = min 60 xs.length from HT.sIx_nat xs.length xs.length 60, List.drop_zero, Nat.sub_zero]
  rcases Nat.le_total 60 xs.length with h | h
  · rw [Nat.min_eq_left h]
  · rw [Nat.min_eq_right h, List.take_length, List.take_of_length_le h]
def spPick : Sp := fun vs H Q _ => ∃ (L p : Addr) (xs : List V) (t : Nat) (l : Addr) (cs : List Int), vs = [.ref L, .ref p] ∧ (H p = some (.lst xs) ∨ H p = some (.tup xs)) ∧ p ≠ L ∧ 0 < xs.length ∧ xs.length ≤ 100000 ∧ Lan H L l cs t ∧ t ≤ 1000000 ∧
  ∀ (H' : Hp) (v : V), v ∈ xs → Keep L H H' → Lan H' L l cs (t + 1) → Q v H'
theorem log_small {n : Int} (h0 : 0 < n) (h : n ≤ 4000000000000) : n.natAbs.log2 < 9000 := by
  have e : n.natAbs < 2 ^ 64 := by omega
  have := PySem.Flt.log2_lt_of (by decide : 0 < 64) e
  omega
end Nv

set_option maxRecDepth 100000
set_option maxHeartbeats 4000000
namespace Nv
open PySem PySem.Spec PyProof.Rows L2 LamX
/-- what a lambda's defaults are: none, or one int in a tuple of its own -/
def DefAt (params : Arguments) (dV : Value) (i : Int) (H : Hp) (fs : List Addr) (h : Heap) : Prop :=
  (params.defaults = [] ∧ dV = .none) ∨ (params.defaults ≠ [] ∧ ∃ (t : Addr) (tk : Tok), dV = .ref t ∧ h.get? t = some (PySem.W.kdv_tup [.int i tk]) ∧ H t = none ∧ t ∉ fs)
section
variable {X : Cx} {pins : List (Addr × Obj)} {σ : L2.St} {H : Hp} {s : Shared}
theorem out_of_frames (I : Inv X pins σ H s) {f : Addr} (hf : s.heap.objs.size ≤ f) : f ∉ frs X.stack := fun z => by
  rcases List.mem_cons.mp (I.stkSub _ z) with e | e
  · have l1 := I.lt
    rw [← e] at l1
    exact Nat.lt_irrefl _ (Nat.lt_of_lt_of_le l1 hf)
  · exact I.nofs hf e
/-- the function object is laid, its code object new or found -/
theorem lam_tail {T : List (Addr × Str)} {c P : Addr} {params : Arguments} {body : Expr} {scope : Scope} {pos : Pos} {dV : Value} {E : Value → Shared → Prop} {Q : Value → Shared → Prop} (I : Inv X pins σ H s) (TB : TabB X.base X.mg c P) (hcode : X.env.code = .ref c)
    (hm : (P, X.env.qual ++ "<lambda>") ∈ T) (hu : ∀ p ∈ T, p.1 = P → p.2 = X.env.qual ++ "<lambda>") (hT : Tabs T H) (hfree : ∀ y ∈ scope.names, y.2 = .free → ∃ c, X.env.cells.lookup y.1 = some c)
    (h : ∀ (f c' : Addr) (doc pm ctv : Value) (H1 : Hp) (s' : Shared), Inv X pins σ H1 s' → ExtN H H1 → (∀ b o, s.heap.get? b = some o → H b = none → s'.heap.get? b = some o ∧ H1 b = none) → Tabs T H1 →
      s'.heap.get? f = some (PySem.W.kdv_obj "<lambda>" (X.env.qual ++ "<lambda>") params (.expr body) scope (cloFrom X.env.cells scope.names []) dV doc pm c' ctv) → H1 f = none → f ∉ frs X.stack → H1 c' = some (CodeO c' (X.env.qual ++ "<lambda>")) → Q (.ref f) s') :
    wpAny (model X.prog X.w) X.A (makeTail "<lambda>" (X.env.qual ++ "<lambda>") params (.expr body) scope X.env dV .none none pos pos.line) Q E s := by
  obtain ⟨ps, hP, ht, ha⟩ := hT _ hm
  have bP : s.heap.BuiltinsAt X.mg P := TB.bm.keeps I.bk
  have tabAt : s.heap.get? P = some { cls := .none, data := .fields ps } := I.hok P _ hP
  cases hc : codeAmong pos ps.toList with
  | none =>
    refine PySem.W.kdv_makeTail (mg := X.mg) (c := c) (P := P) (ps := ps) (closure_ok hfree) I.ok.glob (I.mod.glob.keeps I.bk) hcode (TB.code.keeps I.bk) tabAt ht hc TB.gP bP fun c' ctv doc h' tk hx hge hlt hrec htb => ?_
    obtain ⟨c2, oc, vs, t, e2, hoc, hd, hv⟩ := hrec
    cases e2
    have big : s.heap.objs.size ≤ h'.objs.size := Nat.le_trans hge (Nat.le_of_lt hlt)
    have nC : H c' = none := I.hok.fresh hge
    generalize hfo : PySem.W.kdv_obj "<lambda>" (X.env.qual ++ "<lambda>") params (.expr body) scope (cloFrom X.env.cells scope.names []) dV doc ((X.mg "__name__").getD .none) c' ctv = fo
    have nf : fo.isFreed = false := by rw [← hfo]; rfl
    have I1 := inv_table (t' := tk) (more := #[rawInt pos.line, rawInt pos.col, .ref c']) (h' := h'.push fo) I hP (fun b o nb e => Heap.get?_push_of_some _ (hx b o nb e)) (Heap.get?_push_of_some _ htb) hge ⟨oc, vs, t, Heap.get?_push_of_some _ hoc, hd, hv⟩
    have ext : ExtN H (upd (upd H P (.tbl (ps ++ #[rawInt pos.line, rawInt pos.col, .ref c']))) c' (CodeO c' (X.env.qual ++ "<lambda>"))) := fun b o e n => by
      rw [upd_ne (ne_of_none e nC), upd_ne (fun z => n ps (Option.some.inj (e.symm.trans (by rw [z]; exact hP))))]
      exact e
    have eL : (ps ++ #[rawInt pos.line, rawInt pos.col, .ref c']).toList = ps.toList ++ [rawInt pos.line, rawInt pos.col, .ref c'] := by simp
    refine h h'.objs.size c' doc ((X.mg "__name__").getD .none) ctv _ _ I1 ext (fun b o e n => ?_) (fun p hp => ?_) (by rw [hfo]; exact Heap.get?_push_size _ nf) ?_ (out_of_frames I big) upd_same
    · have nbP : b ≠ P := fun z => by rw [z, hP] at n; cases n
      have nbc : b ≠ c' := fun z => by
        rw [z] at e
        exact Nat.lt_irrefl _ (Nat.lt_of_lt_of_le (Heap.lt_size e) hge)
      exact ⟨Heap.get?_push_of_some _ (hx b o nbP e), by rw [upd_ne nbc, upd_ne nbP]; exact n⟩
    · by_cases hb : p.1 = P
      · rw [hu p hp hb, hb]
        refine ⟨_, by rw [upd_ne (ne_of_none hP nC), upd_same], by rw [eL]; exact PySem.TriplesOk_snoc _ _ _ _ ht, fun p' cv hcv => ?_⟩
        rw [eL] at hcv
        rcases among_app _ ht hcv with z | z
        · obtain ⟨c0, e1, e2⟩ := ha p' cv z
          exact ⟨c0, e1, ext _ _ e2 codeO_ne⟩
        · exact ⟨c', z, upd_same⟩
      · obtain ⟨ps', a1, a2, a3⟩ := hT p hp
        refine ⟨ps', by rw [upd_ne (ne_of_none a1 nC), upd_ne hb]; exact a1, a2, fun p' cv hcv => ?_⟩
        obtain ⟨c0, e1, e2⟩ := a3 p' cv hcv
        exact ⟨c0, e1, ext _ _ e2 codeO_ne⟩
    · have n1 : h'.objs.size ≠ c' := Nat.ne_of_gt hlt
      have n2 : h'.objs.size ≠ P := Nat.ne_of_gt (Nat.lt_of_lt_of_le (Heap.lt_size tabAt) big)
      rw [upd_ne n1, upd_ne n2]
      exact I.hok.fresh big
  | some cv =>
    obtain ⟨c', e, hco⟩ := ha pos cv hc
    subst e
    refine PySem.W.kdv_makeTailHit (mg := X.mg) (c := c) (P := P) (ps := ps) (closure_ok hfree) I.ok.glob (I.mod.glob.keeps I.bk) hcode (TB.code.keeps I.bk) tabAt ht hc bP fun ctv doc h' tk hx big => ?_
    generalize hfo : PySem.W.kdv_fn "<lambda>" (X.env.qual ++ "<lambda>") params (.expr body) scope (cloFrom X.env.cells scope.names []) dV doc ((X.mg "__name__").getD .none) (.ref c') ctv = fo
    have I1 : Inv X pins σ H { s with heap := h'.push { cls := .type "function", data := .func fo }, toks := tk } := I.kept fun b o e => Heap.get?_push_of_some _ (hx b o e)
    refine h h'.objs.size c' doc ((X.mg "__name__").getD .none) ctv H _ I1 (ExtN.refl H) (fun b o e n => ⟨Heap.get?_push_of_some _ (hx b o e), n⟩) hT ?_ (I.hok.fresh big) (out_of_frames I big) hco
    rw [← hfo]
    exact Heap.get?_push_size _ rfl
/-- a lambda of no parameters, or of one with a written int as default -/
theorem lam_makeD {T : List (Addr × Str)} {c P : Addr} {params : Arguments} {body : Expr} {scope : Scope} {pos : Pos} {E : Value → Shared → Prop} {Q : Value → Shared → Prop} {i : Int} (I : Inv X pins σ H s) (TB : TabB X.base X.mg c P) (hcode : X.env.code = .ref c)
    (hm : (P, X.env.qual ++ "<lambda>") ∈ T) (hu : ∀ p ∈ T, p.1 = P → p.2 = X.env.qual ++ "<lambda>") (hT : Tabs T H) (hd : params.defaults = [] ∨ ∃ j p0, params.defaults = [.Constant (.int i) j p0]) (hk0 : params.kw_defaults = [])
    (hfree : ∀ y ∈ scope.names, y.2 = .free → ∃ c, X.env.cells.lookup y.1 = some c)
    (h : ∀ (f c' : Addr) (dV doc pm ctv : Value) (H1 : Hp) (s' : Shared), Inv X pins σ H1 s' → ExtN H H1 → Tabs T H1 → DefAt params dV i H1 (frs X.stack) s'.heap →
      s'.heap.get? f = some (PySem.W.kdv_obj "<lambda>" (X.env.qual ++ "<lambda>") params (.expr body) scope (cloFrom X.env.cells scope.names []) dV doc pm c' ctv) → H1 f = none → f ∉ frs X.stack → H1 c' = some (CodeO c' (X.env.qual ++ "<lambda>")) → Q (.ref f) s') :
    wpAny (model X.prog X.w) X.A (eval (.Lambda params body scope pos) X.env) Q E s := by
  rcases hd with hd | ⟨j, p0, hd⟩
  · refine PySem.W.kla_eval (by rw [defaultsOf_eq, hd, hk0]; rfl) ?_
    rw [makeFunction_eq]
    simp only [List.zip_nil_right, List.filterMap_nil, List.isEmpty_nil, if_true, pure_bind]
    exact lam_tail I TB hcode hm hu hT hfree fun f c' doc pm ctv H1 s' I1 e k T1 hf hn hfr hco => h f c' .none doc pm ctv H1 s' I1 e T1 (.inl ⟨hd, rfl⟩) hf hn hfr hco
  · refine PySem.W.kdv_lam (by rw [hd]; rfl) hk0 ?_
    rw [hd]
    refine PySem.W.kdv_all1 (wpAny_Constant_int (PySem.W.kdv_all0 ?_))
    rw [makeFunction_eq]
    simp only [List.zip_nil_right, List.filterMap_nil, List.isEmpty_nil, if_true, pure_bind, List.isEmpty_cons, Bool.false_eq_true, if_false]
    refine wpAny_bind (wpAny_newTextTuple ?_)
    have I0 : Inv X pins σ H { s with toks := s.toks + 1 } := I.tok _
    have I1 : Inv X pins σ H { s with heap := s.heap.push (PySem.W.kdv_tup [.int i s.toks]), toks := s.toks + 1 } := I.kept fun b o e => Heap.get?_push_of_some _ e
    have fr := out_of_frames I (Nat.le_refl _)
    refine lam_tail I1 TB hcode hm hu hT hfree fun f c' doc pm ctv H1 s' I2 e k T1 hf hn hfr hco => ?_
    obtain ⟨g1, g2⟩ := k s.heap.objs.size _ (Heap.get?_push_size _ rfl) (I.hok.fresh (Nat.le_refl _))
    exact h f c' (.ref s.heap.objs.size) doc pm ctv H1 s' I2 e T1 (.inr ⟨by rw [hd]; simp, _, _, rfl, g1, g2, fr⟩) hf hn hfr hco

/-- the lambda's names: captured ones, globals, and parameters that the maker doesn't name -/
structure LamD (N : List Str) (sc scope : Scope) : Prop where
  kind : scope.kind = .function
  co : scope.isCoroutine = false
  gen : scope.isGenerator = false
  own : ∀ y ∈ scope.names, y.2 ≠ .cell ∧ (y.2 = .local → y.1 ∉ N)
  free : ∀ y ∈ scope.names, y.2 = .free → sc.names.lookup y.1 = some .cell ∨ sc.names.lookup y.1 = some .free
def lamDB (N : List Str) (sc scope : Scope) : Bool :=
  decide (scope.kind = .function) && !scope.isCoroutine && !scope.isGenerator && scope.names.all fun y => !decide (y.2 = .cell) && (!decide (y.2 = .local) || !decide (y.1 ∈ N)) && (!decide (y.2 = .free) || decide (sc.names.lookup y.1 = some .cell) || decide (sc.names.lookup y.1 = some .free))
theorem lamD_by {N : List Str} {sc scope : Scope} (h : lamDB N sc scope = true) : LamD N sc scope := by
  unfold lamDB at h
  simp only [Bool.and_eq_true, Bool.or_eq_true, Bool.not_eq_true', decide_eq_true_eq, decide_eq_false_iff_not, List.all_eq_true] at h
  obtain ⟨⟨⟨h1, h2⟩, h3⟩, h4⟩ := h
  refine ⟨h1, h2, h3, fun y hy => ⟨(h4 y hy).1.1, fun e => ?_⟩, fun y hy e => ?_⟩
  · rcases (h4 y hy).1.2 with z | z
    · exact absurd e z
    · exact z
  · rcases (h4 y hy).2 with (z | z) | z
    · exact absurd e z
    · exact .inl z
    · exact .inr z
theorem LamD.has {scope : Scope} (L : LamD X.N X.env.scope scope) (ok : X.Ok) : ∀ y ∈ scope.names, y.2 = .free → ∃ c, X.env.cells.lookup y.1 = some c := fun y hy e => by
  rcases L.free y hy e with k | k
  · exact ok.has _ (.inl k)
  · exact ok.has _ (.inr k)
variable {HZ : Hp} {s1 : Shared}
theorem lam_startD {A : Around} {outer : List Env} {E : XK} {scope : Scope} {f c' : Addr} {h₁ : Heap} {tk : Nat} {mm : Str → Option Value} (I : Inv X pins σ H s) (L : LamD X.N X.env.scope scope) (e0 : Env0 X.prog X.w X.K X.mg X.base A outer s1 HZ) (cool : A.handled = none)
    (un : Un (frs X.stack) [] H HZ s.heap s1.heap) (hns : h₁.Ns s1.heap.objs.size mm) (kp : ∀ b o, s1.heap.get? b = some o → h₁.get? b = some o) :
    Inv (lamCx X A outer s1 HZ E scope f c') [] σ HZ { s1 with heap := h₁, toks := tk } := by
  have hfree := L.has I.ok
  have cm : ∀ {y c}, (cloFrom X.env.cells scope.names []).lookup y = some c → X.env.cells.lookup y = some c := fun {y c} e => by
    rcases cloFrom_mem (PySem.mem_of_lookup e) with hm | ⟨h1, h2⟩
    · cases hm
    · obtain ⟨c1, hc⟩ := hfree _ h1 rfl
      have hc : X.env.cells.lookup y = some c1 := hc
      have e2 : c = c1 := by
        rw [h2, hc] <;> rfl
      rw [e2]
      exact hc
  have look : ∀ {y}, scope.names.lookup y = some .free → ∃ c, (cloFrom X.env.cells scope.names []).lookup y = some c := fun {y} hl => by
    have hy : (y, NameKind.free) ∈ scope.names := PySem.mem_of_lookup hl
    exact mem_lookup (cloFrom_has (cells := X.env.cells) (acc := []) hy)
  have cellK : ∀ {c : Addr} {v : Option Value}, H c = none → s.heap.IsCell c v → h₁.IsCell c v := fun {c v} n ⟨o, ho, hd⟩ => by
    obtain ⟨sl, q⟩ := un.any ho n (by simp)
    exact ⟨_, kp _ _ q, hd⟩
  have noA : ∀ b : Addr, b ∉ (lamCx X A outer s1 HZ E scope f c').ex := fun b z => absurd (show b ∈ ([] : List Addr) from z) (by simp)
  refine ⟨⟨e0.mod, L.kind, rfl, rfl, Nat.le_refl _, fun y z c e1 e2 => I.ok.inj y z c (cm e1) (cm e2), fun y hy => ?_, fun y c z _ => ?_, fun _ => cool, Around.frames_deeper e0.frames, .inr ⟨rfl, rfl⟩, fun b z => absurd z (noA b), e0.bs, e0.bsz, fun b _ _ => noA b,
      fun b z => absurd z (noA b), e0.funs, e0.frf⟩,
    rfl, e0.bare, Un.kept kp, ⟨_, hns, fun i y v e1 e2 e3 => ?_⟩, fun y c e => ?_, e0.hok.fresh (Nat.le_refl _), fun y c e => ?_, fun q hq => absurd (show q ∈ ([] : List (Addr × Obj)) ++ [] from hq) (by simp), e0.hok.kept kp, I.len⟩
  · have hy : scope.names.lookup y = some .cell ∨ scope.names.lookup y = some .free := hy
    rcases hy with hy | hy
    · exact absurd rfl (L.own _ (PySem.mem_of_lookup hy)).1
    · exact look hy
  · have z : false = true := z
    cases z
  · have e3 : Vis scope y := e3
    rcases e3 with k | k | k
    · exact absurd (List.mem_of_getElem? e1) ((L.own _ (PySem.mem_of_lookup k)).2 rfl)
    · exact absurd rfl (L.own _ (PySem.mem_of_lookup k)).1
    · obtain ⟨m, hn, hl⟩ := I.loc
      have hvis : Vis X.env.scope y := (L.free _ (PySem.mem_of_lookup k) rfl).elim (fun k => .inr (.inl k)) (fun k => .inr (.inr k))
      obtain ⟨w', r, q⟩ := hl i y v e1 e2 hvis
      obtain ⟨c2, h2⟩ := look k
      refine ⟨w', r, .inr ⟨.inr k, c2, h2, ?_⟩⟩
      have c1 := cm h2
      rcases q with ⟨k', _⟩ | ⟨_, c3, e', z⟩
      · have k' : X.env.scope.names.lookup y = some .local := k'
        rcases L.free _ (PySem.mem_of_lookup k) rfl with k2 | k2 <;> rw [show X.env.scope.names.lookup y = _ from k2] at k' <;> cases k'
      · rw [c1] at e'
        cases e'
        exact cellK (I.freeC y _ c1) z
  · obtain ⟨w', z⟩ := I.cell y c (cm e)
    exact ⟨w', cellK (I.freeC y c (cm e)) z⟩
  · obtain ⟨v, o, ho, hd⟩ := I.cell y c (cm e)
    exact un.free c o ho (I.freeC y c (cm e)) (by simp)
/-- how the lambda binds nothing -/
def LamBinds (params : Arguments) (body : Expr) (scope : Scope) (i : Int) : Prop :=
  ∀ (q : Str) (cl : List (Str × Addr)) (dV doc pm cv ctv : Value) (s : Shared), ((params.defaults = [] ∧ dV = .none) ∨ (params.defaults ≠ [] ∧ ∃ (t : Addr) (tk : Tok), dV = .ref t ∧ s.heap.get? t = some (PySem.W.kdv_tup [.int i tk]))) →
    ∃ binds, BindsTo s (PySem.W.kdv_fn "<lambda>" q params (.expr body) scope cl dV doc pm cv ctv) ⟨[], []⟩ binds ∧ ∀ y ∈ binds, scope.names.lookup y.1 = some .local
/-- x(), in the def that got the lambda -/
theorem pe_actD {CXg : CXT} {Eg : XK} {Ng : List Str} {qg : Str} {sg : Scope} {g f c' : Addr} {cdg dV doc pm ctv : Value} {params : Arguments} {body : Expr} {scope : Scope} {k j : Nat} {a : Str} {pn : List (Addr × Obj)} {xe : Value → Shared → Prop} {W : WX} {E : XK} {tb : TE} {p1 p2 : Pos} {i : Int}
    (I : Inv X pins σ H s) (L : LamD X.N X.env.scope scope) (D : DefAt params dV i H (frs X.stack) s.heap) (hf : s.heap.get? f = some (PySem.W.kdv_obj "<lambda>" (X.env.qual ++ "<lambda>") params (.expr body) scope (cloFrom X.env.cells scope.names []) dV doc pm c' ctv)) (hfn : H f = none) (hfr : f ∉ frs X.stack)
    (B : LamBinds params body scope i)
    (tk : Takes ((cxOf CXg X.prog X.w X.K X.mg X.base Ng qg sg g cdg X.A X.stack s H Eg).tr pn xe) W) (hW : ∀ cls d σ' H', E cls d H' → W cls d σ' H') (hr : Room (k + 1) (X.A.deeper (envOfC qg sg s.heap.objs.size g cdg)))
    (hbody : ∀ (A : Around) (outer : List Env) (s : Shared) (H : Hp), Room k (A.deeper (lamEnv X scope s.heap.objs.size f c')) → PE (lamCx X A outer s H E scope f c') body tb)
    (hN : Ng[j]? = some a) (hv : Vis sg a) (hd : (a == ("__debug__" : Str)) = false := by decide) (hcd : (a == ("__classdict__" : Str)) = false := by decide) :
    PE ((cxOf CXg X.prog X.w X.K X.mg X.base Ng qg sg g cdg X.A X.stack s H Eg).tr pn xe) (.Call (.Name a p1) [] [] p2)
      (fun σZ HZ Q => σZ[j]? = some (some (.ref f)) ∧ HZ c' = some (CodeO c' (X.env.qual ++ "<lambda>")) ∧ tb σ HZ Q) := by
  refine ⟨fun pinsZ sZ σZ HZ Q IZ h => ?_⟩
  obtain ⟨hs, hc, ht⟩ := h
  refine wpAny_Call_Name_kw (thn ((pe_var (pos := p1) (i := j) hN hv hd hcd).run pinsZ sZ σZ HZ (fun v H1 => v = .ref f ∧ H1 = HZ) IZ ⟨.ref f, hs, rfl, rfl⟩) fun u s1 ⟨v, H1, I1, r1, q1⟩ => ?_)
  obtain ⟨ev, eH⟩ := q1
  subst ev
  rw [eH] at I1
  obtain rfl : u = Value.ref f := r1
  have of1 : s1.heap.get? f = some (PySem.W.kdv_obj "<lambda>" (X.env.qual ++ "<lambda>") params (.expr body) scope (cloFrom X.env.cells scope.names []) dV doc pm c' ctv) := I1.base.keep f _ hf hfn hfr (fun z => nomatch (show f ∈ ([] : List Addr) from z))
  refine PySem.W.callWith_F0 ⟨_, _, _, _, of1⟩ ?_
  have un : Un (frs X.stack) [] H HZ s.heap s1.heap := I1.base
  obtain ⟨⟨oc, vs, t, hoc, hdc, hvc⟩, _, _⟩ := I1.hok c' _ hc
  obtain ⟨binds, hB, hloc⟩ := B (X.env.qual ++ "<lambda>") (cloFrom X.env.cells scope.names []) dV doc pm (.ref c') ctv s1 (by
    rcases D with d | ⟨d, t, tk, e, g1, g2, g3⟩
    · exact .inl d
    · exact .inr ⟨d, t, tk, e, un.keep t _ g1 g2 g3 (by simp)⟩)
  have rc : codeAny (model X.prog X.w) (X.A.deeper (envOfC qg sg s.heap.objs.size g cdg)) (.call (.ref f) ⟨[], []⟩) (CR (L2.CX X.prog X.w) (envOfC qg sg s.heap.objs.size g cdg :: X.stack) X.prog X.w HZ s1 Q E) s1 := by
    refine PySem.W.kla_callFunE hr.depth of1 rfl L.co L.gen rfl ⟨c', oc, vs, t, rfl, hoc, hdc, hvc⟩ (hB _ _ _ _ ?_)
    refine wpAny_newFunctionEnv (fun y hy => (L.own y hy).1) hloc (fun h₁ hns hsb => ⟨I1.nolimit.fresh _ hsb, ?_⟩) L.kind
    show codeAny _ _ (.expr body (lamEnv X scope s1.heap.objs.size f c')) _ _
    have kp : ∀ b o, s1.heap.get? b = some o → h₁.get? b = some o := fun b o e => hsb.extBut b o (Nat.ne_of_lt (Heap.lt_size e)) (Heap.get?_push_of_some _ e)
    have J : Inv (lamCx X (X.A.deeper (envOfC qg sg s.heap.objs.size g cdg)) (envOfC qg sg s.heap.objs.size g cdg :: X.stack) s1 HZ E scope f c') [] σ HZ { s1 with heap := h₁, toks := s1.toks + binds.length } :=
      lam_startD I L I1.env0 hr.hd un hns kp
    refine PySem.W.kla_codeExpr (wpAny_mono ((hbody _ _ s1 HZ (hr.deeper _)).run [] _ _ HZ Q J ht) (fun v s' hq => ?_) fun e s' hq => hq)
    obtain ⟨w', H', J', rv, q⟩ := hq
    exact ⟨w', H', J'.os, J'.bare, J'.base, J'.hok, rv, q⟩
  have hx : Passes (L2.CX X.prog X.w) ((cxOf CXg X.prog X.w X.K X.mg X.base Ng qg sg g cdg X.A X.stack s H Eg).tr pn xe) E := passes_call tk hW
  refine wpAny_call (codeAny_mono rc fun r s' hq => ?_)
  cases r with
  | error e => exact hx pinsZ σZ HZ s1 e s' I1 hq
  | ok fl =>
    cases fl with
    | ret u => exact I1.after hq
    | next => exact False.elim hq
    | brk => exact False.elim hq
    | cont => exact False.elim hq
end

section
variable {X : Cx}
/-- x(lambda: body), x(lambda a=0: body): x's body is told by GivesTo, what the lambda's body asks by t -/
theorem pe_heard {T : List (Addr × Str)} {TT : (XK → Hp → VK → Prop) → Hp → VK → Prop} {x a : Str} {g c P : Addr} {k : Nat} {pg : Arguments} {bg : List Stmt} {sg : Scope} {dV kV doc pm cdv ct oc : Value} {an od : Option Addr} {osl : Array (Option Value)} {Ng : List Str}
    {params : Arguments} {body : Expr} {scope : Scope} {t : XK → TE} {p lpos pos : Pos} {i : Int} (hg : Gl X x) (hm : X.mg x = some (.ref g)) (hk : PySem.W.keepIn X.K (.ref g) = true)
    (lk : X.K.lookup g = some ⟨oc, od, .func (PySem.W.fnOf x x pg bg sg dV kV doc pm an cdv ct), osl⟩) (hcg : PySem.W.codeIn X.K cdv x = true) (hb : L2.Binds X.K (PySem.W.fnOf x x pg bg sg dV kV doc pm an cdv ct) [a] []) (Sg : FnScope Ng [a] sg) (hNg : Ng[0]? = some a) (hva : Vis sg a)
    (hG : GivesTo X Ng x sg g cdv bg a (X.env.qual ++ "<lambda>") TT)
    (TB : TabB X.base X.mg c P) (hcode : X.env.code = .ref c) (hmT : (P, X.env.qual ++ "<lambda>") ∈ T) (hu : ∀ p ∈ T, p.1 = P → p.2 = X.env.qual ++ "<lambda>") (hr : Room (k + 2) X.A) (L : LamD X.N X.env.scope scope)
    (hd0 : params.defaults = [] ∨ ∃ j p0, params.defaults = [.Constant (.int i) j p0]) (hk0 : params.kw_defaults = []) (B : LamBinds params body scope i)
    (hbody : ∀ (A : Around) (outer : List Env) (s : Shared) (H : Hp) (E : XK) (f c' : Addr), Room k (A.deeper (lamEnv X scope s.heap.objs.size f c')) → PE (lamCx X A outer s H E scope f c') body (t E))
    (hdb : (x == ("__debug__" : Str)) = false := by decide) (hd : (a == ("__debug__" : Str)) = false := by decide) (hcd : (a == ("__classdict__" : Str)) = false := by decide) :
    PE X (.Call (.Name x p) [.Lambda params body scope lpos] [] pos) (tLam T TT t) := by
  refine ⟨fun pins s σ H Q I h => ?_⟩
  obtain ⟨hT, h⟩ := h
  refine wpAny_Call_Name_kw (ld_glob I hg hm ?_ hdb)
  refine PySem.W.callWith_K (h₀ := X.base) I.ok.mod.kin hk ?_ (by rfl) (by rfl)
  show wpAny _ _ (spliced ((false, eval (.Lambda params body scope lpos) X.env) :: backTo pos (starEach [] X.env))) _ _ s
  refine Calls.spliced_cons (lam_makeD I TB hcode hmT hu hT hd0 hk0 (L.has I.ok) fun f c' dV' doc' pm' ctv H1 s' I1 eN T1 D hf hfn hfr hco => ?_)
  refine Calls.spliced_nil ⟨I1.kIn, ?_⟩
  have rc : codeAny (model X.prog X.w) X.A (.call (.ref g) ⟨[.ref f], []⟩) (CR C8.CX0 X.stack X.prog X.w H1 s' Q C8.E0) s' := by
    refine run_ofS (N := Ng) (ps := [a]) (us := [.ref f]) (vs := [.ref f]) lk hcg Sg hr I1.env0 (hb s' [.ref f] I1.kIn rfl) (.cons rfl .nil) rfl fun hr' => ?_
    obtain ⟨t', ht', hq'⟩ := hG f c' s' H1 Q (fun E H' Q' => t E σ H' Q') (fun W pn xe E p1 p2 tk hW => pe_actD (j := 0) I1 L D hf hfn hfr B tk hW hr' (fun A outer s H hr2 => hbody A outer s H E f c' hr2) hNg hva hd hcd) hco (h H1 eN T1)
    exact ⟨t', ht'.nox, hq'⟩
  refine wpAny_call (codeAny_mono rc fun r s2 hq => ?_)
  cases r with
  | error e => exact (show False from hq).elim
  | ok fl =>
    cases fl with
    | ret u => exact I1.after hq
    | next => exact False.elim hq
    | brk => exact False.elim hq
    | cont => exact False.elim hq
end
end Nv

set_option maxRecDepth 100000
set_option maxHeartbeats 4000000
namespace Nv
open PySem PySem.Spec PyProof.Rows L2 LamX
/-- at a: an exception of the class cls, its dict at d, that a handler has let go and a name still holds -/
def exC (cls : Value) (a : Addr) (d : Option Addr) : HO := .ext fun h => ∃ (oe : Obj) (vs : Array Value), h.get? a = some oe ∧ Zc cls d oe ∧ oe.data = .fields vs
theorem exC_at {P : Program} {w : World} {H : Hp} {h : Heap} {a : Addr} {cls : Value} {d : Option Addr} (ok : HOk P w H h) (e : H a = some (exC cls a d)) : ∃ (oe : Obj) (vs : Array Value), h.get? a = some oe ∧ Zc cls d oe ∧ oe.data = .fields vs :=
  (show ObjOk P w H h a (.ext fun h => ∃ (oe : Obj) (vs : Array Value), h.get? a = some oe ∧ Zc cls d oe ∧ oe.data = .fields vs) from ok a _ e).1
section
variable {X : Cx} {pins : List (Addr × Obj)} {σ : L2.St} {H : Hp} {s : Shared}
/-- an object that came since the entry, not tracked, is tracked from here on -/
theorem track {a : Addr} {oe : Obj} {vs : Array Value} {cls : Value} {d : Option Addr} (I : Inv X pins σ H s) (g : s.heap.get? a = some oe) (z : Zc cls d oe) (dt : oe.data = .fields vs) (n : H a = none) (new : X.s_0.heap.get? a = none) (nl : a ≠ X.env.locals)
    (np : ∀ p ∈ X.pn ++ pins, p.1 ≠ a) : Inv X pins σ (upd H a (exC cls a d)) s := by
  have up : ∀ {b : Addr} {u : HO}, H b = some u → upd H a (exC cls a d) b = some u := fun {b u} e => by
    rw [upd_ne (ne_of_none e n)]
    exact e
  have no : ∀ {b : Addr}, H b = none → b ≠ a → upd H a (exC cls a d) b = none := fun {b} e nb => by
    rw [upd_ne nb]
    exact e
  refine ⟨I.ok, I.os, I.bare, ⟨I.base.keep, I.base.slot, fun b o e nb x => ?_, I.base.there, fun b xs e => up (I.base.tups b xs e), fun b o u e => up (I.base.frzs b o u e), fun b ps e => ?_⟩, I.loc, I.cell, no I.free nl.symm, fun x c e => ?_, fun p hp => ?_, fun b u e => ?_, I.len⟩
  · refine no (I.base.free b o e nb x) fun q => ?_
    rw [q, new] at e
    cases e
  · obtain ⟨m, q⟩ := I.base.tbls b ps e
    exact ⟨m, up q⟩
  · refine no (I.freeC x c e) fun q => ?_
    obtain ⟨v, o, ho, hd⟩ := I.cell x c e
    rw [q, g] at ho
    cases ho
    rw [dt] at hd
    cases hd
  · obtain ⟨q1, q2, q3⟩ := I.pin p hp
    exact ⟨q1, no q2 (np p hp), q3⟩
  · by_cases q : b = a
    · subst q
      rw [upd_same] at e
      cases e
      exact ⟨⟨oe, vs, g, z, dt⟩, ⟨oe, g⟩, fun h1 h2 ⟨o, v, q1, q2⟩ k => ⟨o, v, k o q1, q2⟩⟩
    · rw [upd_ne q] at e
      exact (I.hok b u e).stay (fun _ _ _ y => y) (fun c y => up y) fun c xs y => up y

/-- what 'except x as n' wishes where the error is still held behind its suite -/
def wHeld (K : PySem.W.Frag) (c : Value) (i : Nat) (ts : Addr → Value → Option Addr → TS) (Wo : WX) (D : Ends) : WX := fun cls d σ H =>
  ∃ b, PySem.W.exmOne K cls c = some b ∧ (b = true → ∀ a, H a = none → ts a cls d { nx := fun σ' H' => H' a = none → D.nx (σ'.set i none) (upd H' a (exC cls a d)), rt := fun _ _ => False } (σ.set i (some (.ref a))) H) ∧ (b = false → Wo cls d σ H)
theorem ps_try_held {x n : Str} {c : Value} {i : Nat} {body suite : List Stmt} {b₀ : Stmt} {np pos pos' : Pos} {tb : WX → TS} {ts : Addr → Value → Option Addr → TS} {Wo : WX}
    (stk : X.stack = X.env :: X.outer) (frm : X.env.frame = some X.env.locals) (nx : X.ex = []) (nd : X.N.Nodup) (ati : X.N[i]? = some n) (lo : X.env.kindOf n = some .local) (nam : Names X x c) (out : Takes X Wo)
    (hb : ∀ (W : WX) (pn : List (Addr × Obj)) (xe : Value → Shared → Prop), Takes (X.tr pn xe) W → PassesOwn (model X.prog X.w) X.A X.env xe → PSs (X.tr pn xe) body (tb W))
    (hsu : ∀ (a : Addr) (oe : Obj) (cls : Value) (d : Option Addr) (pn : List (Addr × Obj)), Zc cls d oe → (∃ vs, oe.data = .fields vs) → PSs (X.suite a ((a, oe) :: pn)) (b₀ :: suite) (ts a cls d)) :
    PS X (.Try body [.ExceptHandler (some (.Name x np)) (some n) (b₀ :: suite) pos'] [] [] pos) (fun D σ H => tb (wHeld X.K c i ts Wo D) D σ H) := by
  refine ⟨fun pins s σ H D I q0 => ?_⟩
  have ok := I.ok
  have afr : X.A.frames = some (X.env :: X.outer) := by rw [ok.frames, stk]
  have nL0 : Loc X.env.scope n := .inl lo
  refine wpAny_Try_except ?_
  refine wpAny_mono ((hb (wHeld X.K c i ts Wo D) (X.pn ++ pins) (fun e t1 => wpAny (model X.prog X.w) X.A (noteFrame e X.env) (fun _ t2 => wpAny (model X.prog X.w) X.A (setFlight e none) (fun _ t3 =>
    wpAny (model X.prog X.w) X.A (handleBy e X.env [.ExceptHandler (some (.Name x np)) (some n) (b₀ :: suite) pos']) (SP X pins D) X.xe t3) X.xe t2) X.xe t1) (fun u t ar => ?_) PassesOwn.looking).run [] s σ H D (I.toTry _) q0) (fun fl t q => ?_) (fun e t q => q)
  · obtain ⟨a, B, t0, pins', σ', H', cls, d, rfl, IT, gr, us, sk, fa, eo, gb, b, em, yes, no⟩ := ar
    have I0 : Inv X pins σ' H' t0 := IT.ofTry ok
    have sk0 : Sky B (X.env :: X.outer) a (Zc cls d) X.env.locals t.heap := by rw [← stk]; exact sk
    show wpAny (model X.prog X.w) X.A (noteFrame (.ref a) X.env) _ _ _
    refine Sky.land Zc.steady afr frm sk0 fun hA fA uA => ?_
    have IA : Inv X pins σ' H' { t with heap := hA } := I0.landed gr fA.1 (us.trans uA) eo gb
    obtain ⟨oA, vA, gA, zA, dA⟩ := fA.there
    have offF : a ∉ frs (X.env :: X.outer) := fun hm => by
      obtain ⟨_, o', e', nd'⟩ := fA.2.2.1.mem hm
      rw [gA] at e'
      cases e'
      exact nd' _ dA
    have offL : a ≠ X.env.locals := fun z => offF (List.mem_filterMap.mpr ⟨X.env, List.mem_cons_self, by rw [frm, z]⟩)
    have offO : a ∉ X.fs := fun hm => by
      obtain ⟨e, he, y⟩ := List.mem_filterMap.mp hm
      exact offF (List.mem_filterMap.mpr ⟨e, List.mem_cons_of_mem _ he, y⟩)
    have not0 : t0.heap.get? a = none := by
      cases y : t0.heap.get? a with
      | none => rfl
      | some o =>
        have z := gr a o y (by rw [stk]; exact offF)
        rw [fA.2.1] at z
        cases z
    have notS : X.s_0.heap.get? a = none := by
      cases y : X.s_0.heap.get? a with
      | none => rfl
      | some o =>
        obtain ⟨o', z⟩ := I0.base.there a o y (by rw [nx]; exact fun z => nomatch z)
        rw [not0] at z
        cases z
    have notP : ∀ p ∈ X.pn ++ pins, p.1 ≠ a := fun p hp z => by
      have y := (I0.pin p hp).1
      rw [z, not0] at y
      cases y
    have SA := IA.suite gA dA fa offL offO
    refine wpAny_handleBy_cons (codeAny_handlers_test ?_) (by intro z; cases z)
    have TL : PySem.W.Looks (model X.prog X.w) hA (typeOf (.ref a)) cls := fun A Q E s k y => wpAny_typeOf_ref (k _ _ gA) (by rw [zA.1]; exact y)
    have ML := PySem.W.exm_one (M := model X.prog X.w) (IA.kIn) TL em
    have asks : ∀ {Q : Value → Shared → Prop} {E : Value → Shared → Prop}, Q c { t with heap := hA } → wpAny (model X.prog X.w) (X.A.mark (some (.ref a))) (eval (.Name x np) X.env) Q E { t with heap := hA } := fun {Q E} y => by
      obtain ⟨n1, n2, n3 | ⟨n3, n4, n5⟩⟩ := nam
      · exact ld_glob (X := X.suite a ((a, oA) :: (X.pn ++ pins))) SA n1 n3 y n2
      · exact ld_blt (X := X.suite a ((a, oA) :: (X.pn ++ pins))) SA n1 n3 n4 y n5 n2
    refine asks (ML.here ?_)
    cases b with
    | true =>
      refine codeAny_handlers_suite_as ?_
      refine HandSPX.lands_againZ fA fun hB fB uB => ?_
      have IB : Inv X pins σ' H' { t with heap := hB } := I0.landed gr fB.1 ((us.trans uA).trans uB) eo gb
      obtain ⟨oB, vB, gB, zB, dB⟩ := fB.there
      have SB := IB.suite gB dB fa offL offO
      refine store_ok (X := X.suite a ((a, oB) :: (X.pn ++ pins))) (v := .ref a) SB nd ati nL0 rfl (fun tC SC => ?_) (.inr lo)
      refine wpAny_mono ((hsu a oB cls d (X.pn ++ pins) zB ⟨_, dB⟩).run [] tC _ H' _ SC (yes rfl a fa)) (fun f tD y => ?_) (fun _ _ z => False.elim z)
      cases f with
      | next =>
        obtain ⟨σD, HD, SD, qD⟩ := y
        have pa := SD.pin (a, oB) (List.mem_append_left _ List.mem_cons_self)
        have JD : Inv X ((a, oB) :: pins) σD HD tD := by
          have z := SD.unsuite (q := (a, oB)) ok
          refine ⟨z.ok, z.os, z.bare, z.base, z.loc, z.cell, z.free, z.freeC, fun p hp => ?_, z.hok, z.len⟩
          rcases List.mem_append.mp hp with m | m
          · exact z.pin p (List.mem_append_left _ m)
          · rcases List.mem_cons.mp m with m | m
            · rw [m]; exact pa
            · exact z.pin p (List.mem_append_right _ m)
        refine gone_ok JD nd ati lo fun tE JE => ?_
        have pE := JE.pin (a, oB) (List.mem_append_right _ List.mem_cons_self)
        have JF : Inv X pins (σD.set i none) HD tE := ⟨JE.ok, JE.os, JE.bare, JE.base, JE.loc, JE.cell, JE.free, JE.freeC, fun p hp => JE.pin p (by
          rcases List.mem_append.mp hp with m | m
          · exact List.mem_append_left _ m
          · exact List.mem_append_right _ (List.mem_cons_of_mem _ m)), JE.hok, JE.len⟩
        exact ⟨_, _, track JF pE.1 zB dB pE.2.1 notS offL notP, qD pE.2.1⟩
      | brk =>
        obtain ⟨_, _, _, qD⟩ := y
        exact False.elim qD
      | cont =>
        obtain ⟨_, _, _, qD⟩ := y
        exact False.elim qD
      | ret u =>
        obtain ⟨_, _, _, _, _, qD⟩ := y
        exact False.elim qD
    | false =>
      show wpAny _ X.A (handleBy (.ref a) X.env []) _ _ _
      refine wpAny_handleBy_nil ?_
      obtain ⟨k1, k2, k3, oe, vs, T, oT, ts', ge, ze, de, le, re⟩ := id fA
      unfold PySem.passOn
      refine wpAny_bind (wpAny_field ge de le ?_)
      rw [if_neg (show ¬ ((Value.ref T == Value.none) = true) from by simp)]
      have fin : wpAny (model X.prog X.w) X.A (setFlight (.ref a) X.env.frame) (fun _ t4 => wpAny (model X.prog X.w) X.A (throw (.ref a) : Sem Flow) (SP X pins D) X.xe t4) X.xe { t with heap := hA } := by
        rw [frm]
        refine HandSPX.setFlight_upZ fA fun hC held uC => wpAny_throw (out _ _ ?_)
        exact ⟨a, B, t0, pins, σ', H', cls, d, rfl, I0, gr, (us.trans uA).trans uC, .inr (.inr (by rw [stk]; exact held)), fa, eo, gb, no rfl⟩
      first
        | exact wpAny_bind (wpAny_pure (wpAny_bind fin))
        | exact wpAny_bind fin
  · cases fl with
    | next =>
      obtain ⟨σ', H', IE, y⟩ := q
      exact wpAny_execs_nil ⟨σ', H', IE.ofTry ok, y⟩
    | brk =>
      obtain ⟨σ', H', IE, y⟩ := q
      exact ⟨σ', H', IE.ofTry ok, y⟩
    | cont =>
      obtain ⟨σ', H', IE, y⟩ := q
      exact ⟨σ', H', IE.ofTry ok, y⟩
    | ret u =>
      obtain ⟨v, σ', H', IE, rv, y⟩ := q
      exact ⟨v, σ', H', IE.ofTry ok, rv, y⟩
end
end Nv

set_option maxRecDepth 100000
set_option maxHeartbeats 4000000
namespace Nv
open PySem PySem.Spec PyProof.Rows L2 LamX
section
open PySem.Calls PySem.W
variable {prog : Program} {w : World} {A : Around} {E : Value → Shared → Prop} {s : Shared} {K : PySem.W.Frag} {x D : Addr} {ox od : Obj}
/-- e.__class__ of an own exception with a dict -/
theorem cls_of_exc {Q : Option Value → Shared → Prop} (C : ExcC K D) (X : K.In s.heap) (I : PySem.W.InstAt s.heap x ox D (some od)) (q : Q (some (.ref D)) { s with toks := s.toks + 1 }) : wpAny (model prog w) A (getAttr? (.ref x) "__class__") Q E s := by
  have found : PySem.W.findObj K D (some od) "__class__" = some (.bind (.builtin "getset_descriptor.__get__") (.builtin "object.__class__")) := PySem.W.findObj_data (by obtain ⟨cd, z, _⟩ := PySem.W.any_some C.hd; rw [z]; rfl) C.ha C.hn C.ht
  obtain ⟨hp, g, d, t, os⟩ := s
  have la := I.type (M := model prog w)
  have lb := PySem.W.looks_findIn (M := model prog w) X C.hg
  have lc := PySem.W.looks_findIn (M := model prog w) X C.hk
  have ld := PySem.W.looks_find (M := model prog w) X I found
  have isExc : PySem.W.Looks (model prog w) hp (isInstance (.ref x) (.type "BaseException")) true := la.andThen (PySem.W.looks_subIn X C.hs)
  have n0 : (false && onTheHeap (Value.builtin "BaseException.__getattribute__")) = false := rfl
  have n1 : (onTheHeap (Value.ref D) && Value.builtin "BaseException.__getattribute__" == Value.builtin "object.__getattribute__") = false := by
    have z : (Value.builtin "BaseException.__getattribute__" == Value.builtin "object.__getattribute__") = false := by decide +kernel
    rw [z]; rfl
  unfold getAttr? getAttrBy? getAttrBy
  refine wpAny_bind (wpAny_mkText (wpAny_bind (wpAny_attempt (wpAny_holding (wpAny_bind (la.at (wpAny_bind (lb.at ?_))))))))
  show wpAny _ _ (if (onTheHeap (Value.ref D) && Value.builtin "BaseException.__getattribute__" == Value.builtin "object.__getattribute__") = true then _ else _) _ _ _
  rw [n1, if_neg Bool.false_ne_true]
  unfold getAttrByItsOwn hookBefore
  refine wpAny_bind ?_
  rw [if_pos (show onTheHeap (Value.ref D) = true from rfl)]
  refine lc.at ?_
  refine wpAny_bind (wpAny_attempt (wpAny_holding ?_))
  unfold callGetattribute
  rw [n0, if_neg Bool.false_ne_true]
  unfold boundAndCalled
  rw [PySem.F.excAttr_ValueError.ga.bind (.ref x)]
  refine wpAny_bind (wpAny_pure ?_)
  show wpAny _ _ (call (.builtin "BaseException.__getattribute__") [.ref x, .str "__class__" t]) _ _ _
  refine wpAny_call (codeAny_call_builtin PySem.F.excAttr_ValueError.ga.plain PySem.F.entry_bexc_ga ?_)
  refine @PySem.W.check_slot (model prog w) _ _ ⟨hp, g, d, t + 1, os⟩ "BaseException.__getattribute__" "BaseException" "__getattribute__" (.ref x) [.str "__class__" t] [] _ (by decide +kernel) (by decide +kernel) isExc (PySem.F.args_bexc_ga (.ref x) (.str "__class__" t)) ?_
  unfold Builtin.«object.__getattribute__»
  refine wpAny_bind (wpAny_of_eq (a := ((Value.ref x : Value), [Value.str "__class__" t])) (by first | rfl | (simp only [slotArgs]; rfl)) ?_)
  refine wpAny_bind (wpAny_pure (wpAny_bind (la.at (wpAny_bind (ld.at ?_)))))
  show wpAny _ _ (holding [Value.builtin "object.__class__"] (call (.builtin "getset_descriptor.__get__") [.builtin "object.__class__", .ref x, .ref D]) >>= ret) _ _ _
  refine wpAny_bind (wpAny_holding (wpAny_call (PySem.W.class_get (s := ⟨hp, g, d, t + 1, os⟩) (ox := ox) (od := some od) X I C.hm ?_)))
  refine wpAny_pure ?_
  show wpAny _ _ (handedOut (.ref D)) _ _ _
  rw [handedOut_of (v := .ref D) rfl]
  first
    | exact wpAny_pure (wpAny_pure q)
    | exact wpAny_pure q
    | exact wpAny_pure (wpAny_bind (wpAny_pure (wpAny_pure q)))
theorem kit_exc (C : ExcC K D) : PySem.W.KitX K (.ref x) (.ref D) (fun h => PySem.W.InstAt h x ox D (some od)) := by
  have Z := PySem.W.handS_kitx_exc (x := x) (ox := ox) C.hg C.hk C.hs C.hd C.ha C.hn C.ht C.hm
  have cl : (PySem.W.clsIn K D).isSome = true := by
    obtain ⟨cd, z, _⟩ := PySem.W.any_some C.hd
    rw [z]; rfl
  refine ⟨fun _ _ _ I => I.type, fun M h X I => ?_, fun h tp dd its n sl X e => ?_, fun X I q => cls_of_exc C X I q⟩
  · unfold PySem.W.clsIn at cl
    split at cl
    · rename_i ho
      intro A1 Q1 E1 t1 k1 q1
      unfold isType loadHead
      exact wpAny_bind (wpAny_loadPart (k1 _ _ (X _ _ ho)) (wpAny_pure q1))
    · cases cl
  · exact Z.ne h tp dd its n sl X e
end
/-- isinstance(x, c): x None or what isinstance knows, or an error that is held -/
def rIsX (K : PySem.W.Frag) : List V → Hp → VK → Prop := fun xs H Q => rIsi K xs H Q ∨
  ∃ (a D dd : Addr) (fs : List (Str × V)) (c : V) (cv : Value) (b : Bool), xs = [.ref a, c] ∧ H a = some (exC (.ref D) a (some dd)) ∧ H dd = some (.xd fs) ∧ ClsV c cv ∧ ExcC K D ∧ PySem.W.kitOne K (.ref D) cv = some b ∧ Q (.bl b) H
section
variable {X : Cx} {pins : List (Addr × Obj)} {σ : L2.St} {H : Hp} {s : Shared}
theorem exc_inst {a D dd : Addr} {fs : List (Str × V)} (I : Inv X pins σ H s) (h1 : H a = some (exC (.ref D) a (some dd))) (h2 : H dd = some (.xd fs)) :
    ∃ (ox od : Obj) (mA : Str → Option Value), PySem.W.InstAt s.heap a ox D (some od) ∧ (∀ f, RelO (fs.lookup f) (mA f)) ∧ ∀ name, PySem.W.lookIn name od = some (mA name) := by
  obtain ⟨oe, vs, g, z, dt⟩ := exC_at I.hok h1
  obtain ⟨mA, ns, rl⟩ := (show ObjOk X.prog X.w H s.heap dd (.xd fs) from I.hok dd _ h2)
  obtain ⟨od, go, lk⟩ := lookIn_ns ns
  exact ⟨oe, od, mA, ⟨g, z.1, by unfold PySem.W.notCls; rw [dt], by rw [z.2]; exact go⟩, rl, lk⟩
theorem call_isX : CallR X (.builtin "isinstance") (rIsX X.K) := by
  intro pins s σ H xs us Q I r h
  rcases h with h | ⟨a, D, dd, fs, c, cv, b, rfl, h1, h2, k, C, e, q⟩
  · exact call_isi pins s σ H xs us Q I r h
  · obtain ⟨u1, u2, rfl, r1, r2⟩ := vals2 r
    have e2 := k.eq r2
    subst e2
    cases (show u1 = Value.ref a from r1)
    obtain ⟨ox, od, mA, J, _⟩ := exc_inst I h1 h2
    exact PySem.W.kia_one (kit_exc C) I.kIn J e (fun z => nomatch z) fun tk => ⟨.bl b, H, I.tok tk, rfl, q⟩
/-- caught.f -/
def tHeldF (K : PySem.W.Frag) (f : Str) (te : TE) : TE := fun σ H Q => te σ H fun x H1 => ∃ (a C dd : Addr) (fs : List (Str × V)) (v : V), x = .ref a ∧ H1 a = some (exC (.ref C) a (some dd)) ∧ H1 dd = some (.xd fs) ∧ XfC K C ∧ PySem.W.findIn K (.ref C) f = some none ∧ fs.lookup f = some v ∧ Q v H1
theorem pe_heldF {e : Expr} {te : TE} {pos : Pos} {f : Str} (he : PE X e te) (hb : attributeBase e f X.env (eval e X.env) = eval e X.env := by rfl) : PE X (.Attribute e f pos) (tHeldF X.K f te) := by
  refine ⟨fun pins s σ H Q I h => attr_of hb (thn (he.run pins s σ H _ I h) fun u s1 ⟨x, H1, I1, rx, a, C, dd, fs, v, ex, h1, h2, T, no, l, q⟩ => ?_)⟩
  subst ex
  cases (show u = Value.ref a from rx)
  obtain ⟨ox, od, mA, J, rl, lk⟩ := exc_inst I1 h1 h2
  obtain ⟨y, hy, ry⟩ := RelO.some_of (v := v) (o := mA f) (by rw [← l]; exact rl f)
  exact HandSPX.exc_get I1.kIn J T.ga T.gg T.exC (PySem.W.findObj_own T.hdC no rfl (by rw [lk, hy])) (handed_of ry) ⟨v, H1, I1.tok _, ry, q⟩
end
end Nv

set_option maxRecDepth 100000
set_option maxHeartbeats 4000000
namespace Nv
open PySem PySem.Spec PyProof.Rows L2
/-- an empty set as the machine lays it -/
abbrev freshSet (w : World) : Obj :=
  { cls := .type "set", dict := none,
    data := .set #[] 0 (.fresh 0 0 (!w.params.followText "set-order")) }
section
variable {P : Program} {w : World} {A : Around} {E : Value → Shared → Prop} {s : Shared}
set_option maxHeartbeats 4000000 in
/-- set(l), l a list of intz -/
theorem set_of_list {l : Addr} {its : Array Value} (ns : List Int) {Q : Value → Shared → Prop} (cool : A.handled = none) (isl : s.heap.IsList l its) (intz : IntsAre its.toList ns) (few : ns.length + 1 < scanBound)
    (q : ∀ (h' : Heap) (tk c : Nat), SetR w h' s.heap.objs.size (fun j => decide (j ∈ ns)) c → c ≤ ns.length → (∀ b o, s.heap.get? b = some o → h'.get? b = some o) → Q (.ref s.heap.objs.size) { s with heap := h', toks := tk }) :
    wpAny (model P w) A (call (.type "set") [.ref l]) Q E s := by
  have cnt : its.size = ns.length := by
    have z := IntsAre.length intz
    rw [Array.length_toList] at z
    exact z
  obtain ⟨c, tl, hmro⟩ := PySem.F.called_set.mro
  have hmade := PySem.F.called_set.made
  have hsub := PySem.F.called_set.sub
  refine wpAny_call (codeAny_of_tree ?_)
  show wpAny _ _ (callAny (.type "set") _) _ _ _
  refine wpAny_pure ⟨Code.quiet_builtin _ (by decide +kernel), codeAny_builtin PySem.F.entry_type_call ?_⟩
  rw [Around.under_plain (weight_type_call_type "set" [.ref l] []) rfl]
  have e1 := PySem.F.called_set.notType
  have e2 := PySem.F.called_set.canCreate
  have e3 := PySem.F.typeCall_set_1 (.ref l)
  repeat (any_goals (first | assumption | wp_step))
  refine codeAny_mono (code_set_led1 (.ref l) (E := E) (Q₁ := fun obj t1 => obj = .ref s.heap.objs.size ∧ t1 = { s with heap := s.heap.push (freshSet w) }) ⟨rfl, rfl⟩) fun r t1 hr => ?_
  cases r with
  | error e => exact hr
  | ok fl =>
    cases fl with
    | ret obj =>
      obtain ⟨rfl, rfl⟩ := hr
      have gS : (s.heap.push (freshSet w)).get? s.heap.objs.size = some (freshSet w) := Heap.get?_push_size _ rfl
      have tS : Shared.TypeIs { s with heap := s.heap.push (freshSet w) } (.ref s.heap.objs.size) "set" := ⟨_, gS, rfl⟩
      have e4 := PySem.F.called_set.init.lookup
      have e5 := PySem.F.called_set.init.bind (.ref s.heap.objs.size)
      repeat (any_goals (first | assumption | wp_step))
      refine codeAny_mono (codeAny_call_builtin (R := wants (fun r t2 => r = .none ∧ ∃ h' tk c, t2 = { s with heap := h', toks := tk } ∧ SetR w h' s.heap.objs.size (fun j => decide (j ∈ ns)) c ∧ c ≤ ns.length ∧
          (∀ b o, s.heap.get? b = some o → h'.get? b = some o)) E) PySem.F.called_set.init.plain PySem.F.entry_set_init (check_set_init_1 tS ?_)) fun r2 t2 hr2 => ?_
      · obtain ⟨ol, gl, cl, nl, dl⟩ := isl
        obtain ⟨ocl, odi, oda, osl⟩ := ol
        simp only at cl dl
        subst cl; subst dl
        have gl' : (s.heap.push (freshSet w)).get? l = some { cls := .type "list", dict := odi, data := .seq its nl, slots := osl } := Heap.get?_push_of_some _ gl
        have d1 := PySem.F.sub_list_set
        have d2 := PySem.F.sub_list_frozenset
        have d3 : (Value.type "list" == Value.type "dict") = false := by decide
        have il : (s.heap.push (freshSet w)).IsList l its := ⟨_, gl', rfl, nl, rfl⟩
        unfold Builtin.«set.__init__» noKeywords Builtin.Frozenset.updateFrom
        generalize hPI : pyIter = PI
        wp_walk
        subst hPI
        refine wpAny_pyIter_list il ?_
        refine wpAny_bind (wpAny_runValue ?_)
        have ll : l < s.heap.objs.size := Heap.lt_size gl
        have cool3 : A.in1.in1.in1.handled = none := by simp [cool]
        have nI : l ≠ (s.heap.push (freshSet w)).objs.size := by
          rw [Heap.size_push]; exact Nat.ne_of_lt (Nat.lt_succ_of_lt ll)
        have nS : s.heap.objs.size ∉ [(s.heap.push (freshSet w)).objs.size, l] := by
          rw [Heap.size_push]; simp only [List.mem_cons, List.mem_singleton, List.not_mem_nil, or_false, not_or]
          exact ⟨Nat.ne_of_lt (Nat.lt_succ_self _), Nat.ne_of_gt ll⟩
        have vals : ∀ (i : Nat) (v : Value), its[i]? = some v → ∃ k t, ns[i]? = some k ∧ v = .int k t := fun i v hv => by
          have li : i < ns.length := by rw [← cnt]; exact (Array.getElem?_eq_some_iff.mp hv).1
          obtain ⟨t, e⟩ := PyProof.Rows.IntsAre.int_at intz i v (by rw [Array.getElem?_toList]; exact hv)
          refine ⟨ns[i], t, List.getElem?_eq_getElem li, ?_⟩
          rw [e, List.getD_eq_getElem?_getD, List.getElem?_eq_getElem li] <;> rfl
        refine set_update_ints ((Walks.list cool3 _ l nI its).toS) s.heap.objs.size
          nS ns cnt few vals (its.size - 0) 0 _ (by omega) (Nat.zero_le _)
          ⟨⟨_, Heap.get?_push_size _ rfl, rfl, rfl⟩, (il.push _)⟩ ?hA ?hB
        case hA =>
          exact ⟨0, Nat.le_refl 0, setR_new_at (Heap.get?_push_of_some _ gS)⟩
        case hB =>
          intro t3 c3 mv lc R3
          obtain ⟨h3, g3, d3', tk3, os3⟩ := t3
          have eg : g3 = s.gens := mv.gens
          have ed : d3' = s.drawn := mv.drawn
          have eo : os3 = s.os := mv.os
          subst eg; subst ed; subst eo
          show wpAny _ _ _ _ _ _
          refine wpAny_pure ?_
          show wpAny _ _ (ret Value.none) _ _ _
          rw [cnt] at lc
          refine wpAny_pure ⟨rfl, h3, tk3, c3, rfl, R3, lc, fun b o e => ?_⟩
          have b0 : b < s.heap.objs.size := Heap.lt_size e
          have b1 : b ≠ s.heap.objs.size := Nat.ne_of_lt b0
          have b2 : b ≠ (s.heap.push (freshSet w)).objs.size := by
            rw [Heap.size_push]; exact Nat.ne_of_lt (Nat.lt_succ_of_lt b0)
          exact mv.heap b o (by simp only [List.mem_cons, List.mem_singleton, List.not_mem_nil, or_false, not_or]; exact ⟨b1, b2⟩) (Heap.get?_push_of_some _ (Heap.get?_push_of_some _ e))
      · cases r2 with
        | error e => exact hr2
        | ok fl2 =>
          cases fl2 with
          | ret r =>
            obtain ⟨rfl, h3, tk3, c3, rfl, R3, lc, kp⟩ := hr2
            repeat (any_goals (first | assumption | wp_step))
            exact q _ _ _ R3 lc kp
          | _ => exact hr2.elim
    | _ => exact hr.elim
end
/-- how many unlike intz -/
def Card (ns : List Int) (c : Nat) : Prop := ∀ l : List Int, l.Nodup → (∀ k, k ∈ l ↔ k ∈ ns) → l.length = c
theorem card_of {w : World} {h : Heap} {a : Addr} {ns : List Int} {c : Nat} (R : SetR w h a (fun j => decide (j ∈ ns)) c) : Card ns c := fun l nd m => by
  obtain ⟨o, es, ep, t, _, _, _, _, nk, mem, _, _, sz, _⟩ := R
  have p : l.Perm (es.toList.map keyOf) := (List.perm_ext_iff_of_nodup nd nk).mpr fun k => by
    rw [m k, ← mem k]
    simp
  rw [p.length_eq, List.length_map, Array.length_toList, sz]
section
variable {X : Cx}
/-- set(e): a list or a tuple of intz -/
def rSetI (K : PySem.W.Frag) (w : World) : List V → Hp → VK → Prop := fun xs H Q => ∃ (p : Addr) (ns : List Int), xs = [.ref p] ∧ (SqL K H p (ns.map V.int) ∨ SqT K H p (ns.map V.int)) ∧ ns.length ≤ 1000 ∧
  ∀ (a : Addr) (c : Nat) (H' : Hp), H a = none → Card ns c → c ≤ ns.length → H' a = some (SetO w a (fun j => decide (j ∈ ns)) c) → Same H H' → Q (.ref a) H'
theorem cr_setI (hc : X.calm = true) : CallR X (.type "set") (rSetI X.K X.w) := by
  intro pins s σ H xs us Q I r h
  obtain ⟨p, ns, rfl, hq, hl, q⟩ := h
  obtain ⟨u, rfl, ru⟩ := vals1 r
  cases (show u = Value.ref p from ru)
  have cool := I.ok.hd hc
  have fin : ∀ (h' : Heap) (tk c : Nat), SetR X.w h' s.heap.objs.size (fun j => decide (j ∈ ns)) c → c ≤ ns.length → (∀ b o, s.heap.get? b = some o → h'.get? b = some o) → EP X pins σ Q (.ref s.heap.objs.size) { s with heap := h', toks := tk } := fun h' tk c R lc kp => by
    have fr : H s.heap.objs.size = none := I.hok.fresh (Nat.le_refl _)
    refine ⟨.ref s.heap.objs.size, upd H s.heap.objs.size (SetO X.w s.heap.objs.size (fun j => decide (j ∈ ns)) c), ?_, rfl, q _ c _ fr (card_of R) lc upd_same (Same.neu fr)⟩
    exact I.laid kp (Nat.le_refl _) (setO_new R)
  rcases hq with hq | hq
  · obtain ⟨its, rv, pl, hz⟩ := I.list hq
    exact set_of_list ns cool pl.isList (by simpa using RZ.intsAre_vals rv) (by unfold scanBound; omega) fin
  · obtain ⟨its, rv, pt, hz⟩ := I.tuple hq
    exact call_set_tupI ns cool pt (by simpa using RZ.intsAre_vals rv) (by unfold scanBound; omega) fin
/-- len(s) -/
def rLenS (w : World) : List V → Hp → VK → Prop := fun xs H Q => ∃ (a : Addr) (S : Int → Bool) (n : Nat), xs = [.ref a] ∧ H a = some (SetO w a S n) ∧ Q (.int ((n : Nat) : Int)) H
theorem cr_lenS : CallR X (.builtin "len") (rLenS X.w) := by
  intro pins s σ H xs us Q I r h
  obtain ⟨a, S, n, rfl, ha, q⟩ := h
  obtain ⟨u, rfl, ru⟩ := vals1 r
  cases (show u = Value.ref a from ru)
  obtain ⟨o, es, ep, t, go, ex, dd, _, _, _, sb, ft, en, _⟩ := setO_get I ha
  exact call_len_set go ex dd ft (by unfold scanBound at sb; omega) ⟨.int ((n : Nat) : Int), H, I.tok _, ⟨_, by rw [en]⟩, q⟩
end
end Nv

set_option maxRecDepth 100000
set_option maxHeartbeats 4000000
namespace Nv
open PySem PySem.Spec PyProof.Rows L2
/-! ### rules whose reading names K alone -/
section
variable {X : Cx} {K : PySem.W.Frag}
def rLenSeq (K : PySem.W.Frag) : List V → Hp → VK → Prop := fun xs H Q => ∃ p ys, xs = [.ref p] ∧ (SqL K H p ys ∨ SqT K H p ys) ∧ Q (.int ys.length) H
theorem cr_lenSeq (h : X.K = K) : CallR X (.builtin "len") (rLenSeq K) := by subst h; exact call_len_seq
theorem ix_seqK (h : X.K = K) : IxR X (rIx K) := by subst h; exact ix_seq
theorem ix_listK (h : X.K = K) : IxR X (rIxL K) := by subst h; exact ix_list
theorem op_inK (h : X.K = K) : OpR X (compareOp .In) (rIn K false) := by subst h; exact op_in_seq
theorem op_ninK (h : X.K = K) : OpR X (compareOp .NotIn) (rIn K true) := by subst h; exact op_notIn_seq
end
/-! ### readings peeled -/
section
variable {σ : L2.St} {H : Hp}
theorem pNot {t : TT} {Q : Bool → Hp → Prop} (h : t σ H fun b H1 => Q (!b) H1) : tNot t σ H Q := h
theorem pB {t : TE} {Q : Bool → Hp → Prop} (h : t σ H fun x H1 => ∃ d, x = .bl d ∧ Q d H1) : tB t σ H Q := h
theorem pCB1 {r : List V → Hp → VK → Prop} {t : TE} {Q : VK} (h : t σ H fun x H1 => r [x] H1 Q) : tCB r (tCons t tNil) σ H Q := h
theorem pAsg {te : TE} {g : TG} {D : Ends} (h : te σ H fun x H1 => g x σ H1 D.nx) : tAsg te g D σ H := h
theorem pOp {r : R2} {ta tb : TE} {Q : VK} (h : ta σ H fun x H1 => tb σ H1 fun y H2 => r x y H2 Q) : tOp r ta tb σ H Q := h
theorem pCall1 {sp : Sp} {dvs : List V} {E : XK} {t : TE} {Q : VK} (h : t σ H fun x H1 => sp ([x] ++ dvs) H1 Q E) : tCall sp dvs E (tCons t tNil) σ H Q := h
end
/-! ### a row: a list or a tuple -/
def Row (K : PySem.W.Frag) (H : Hp) (a : Addr) (xs : List V) : Prop := SqT K H a xs ∨ SqL K H a xs
theorem same_t {K : PySem.W.Frag} {H H' : Hp} {a : Addr} {xs : List V} (e : Same H H') (h : SqT K H a xs) : SqT K H' a xs := h.imp (fun h => h.imp (fun h => e _ _ h) fun ⟨o, h⟩ => ⟨o, e _ _ h⟩) id
theorem same_l {K : PySem.W.Frag} {H H' : Hp} {a : Addr} {xs : List V} (e : Same H H') (h : SqL K H a xs) : SqL K H' a xs := h.imp (fun h => h.imp (fun h => e _ _ h) fun ⟨o, h⟩ => ⟨o, e _ _ h⟩) id
theorem Same.row {K : PySem.W.Frag} {H H' : Hp} {a : Addr} {xs : List V} (e : Same H H') (r : Row K H a xs) : Row K H' a xs :=
  r.imp (same_t e) (same_l e)
/-- walked: a list or a tuple -/
def iRow (K : PySem.W.Frag) (tl : TE) : TI := fun σ H R => iList K tl σ H R ∨ iTup K tl σ H R
theorem pi_row {X : Cx} {tg l : Expr} {tl : TE} (h : PE X l tl) : PI X tg l (iRow X.K tl) :=
  ⟨fun pins s σ H R I q => q.elim (fun q => (pi_list (tg := tg) h).run pins s σ H R I q) fun q => (pi_tup (tg := tg) h).run pins s σ H R I q⟩
theorem lc_turn {xs : List V} {i : Nat} {vs : List Nat} {σ : L2.St} {H : Hp} {tt : TT} {te : TE} (f : V → V) (t : V → Bool) (few : xs.length < sizeLine) (hw : ∀ x, wipe ((wipe σ vs).set i (some x)) vs = wipe σ vs)
    (ht : ∀ (x : V) (H' : Hp) (R : Bool → Hp → Prop), x ∈ xs → Same H H' → (∀ H'', Same H' H'' → R (t x) H'') → tt ((wipe σ vs).set i (some x)) H' R)
    (he : ∀ (x : V) (H' : Hp) (R : VK), x ∈ xs → t x = true → Same H H' → (∀ H'', Same H' H'' → R (f x) H'') → te ((wipe σ vs).set i (some x)) H' R) : ∀ (D : Addr) (j : Nat) (x : V) (H' : Hp), xs[j]? = some x → (Same H H' ∧ H' D = some (.lst (((xs.take j).filter t).map f)) ∧ H D = none) → gName i x (wipe σ vs) H' fun σ2 H2 => wipe σ2 vs = wipe σ vs ∧ tt σ2 H2 fun b H3 =>
      if b = true then te σ2 H3 fun y H4 => ∃ acc, H4 D = some (.lst acc) ∧ acc.length < sizeLine ∧ (Same H (upd H4 D (.lst (acc ++ [y]))) ∧ (upd H4 D (.lst (acc ++ [y]))) D = some (.lst (((xs.take (j + 1)).filter t).map f)) ∧ H D = none)
      else Same H H3 ∧ H3 D = some (.lst (((xs.take (j + 1)).filter t).map f)) ∧ H D = none := fun D j x H' hx ⟨s, e, n⟩ => by
    have mem : x ∈ xs := List.mem_of_getElem? hx
    refine ⟨hw x, ht x H' _ mem s fun H2 s2 => ?_⟩
    have tk : xs.take (j + 1) = xs.take j ++ [x] := by rw [List.take_add_one, hx]; rfl
    cases b : t x with
    | true =>
      rw [if_pos rfl]
      refine he x H2 _ mem b (s.trans s2) fun H3 s3 => ⟨_, s3 _ _ (s2 _ _ e), ?_, fun c o h => ?_, ?_, n⟩
      · rw [List.length_map]
        have h1 := List.length_filter_le t (xs.take j)
        have h2 := List.length_take_le j xs
        have h3 := List.length_take_le' j xs
        omega
      · rw [upd_ne (ne_of_none h n)]
        exact s3 _ _ (s2 _ _ (s _ _ h))
      · rw [upd_same, tk, List.filter_append, List.map_append]
        simp [b]
    | false =>
      rw [if_neg Bool.false_ne_true]
      refine ⟨s.trans s2, ?_, n⟩
      rw [s2 _ _ e, tk, List.filter_append]
      simp [b]
/-- [e for x in row if t], e and t only add to the heap -/
theorem lc_row {K : PySem.W.Frag} {a : Addr} {xs : List V} {i : Nat} {vs : List Nat} {σ : L2.St} {H : Hp} {tl : TE} {tt : TT} {te : TE} {Q : VK} (f : V → V) (t : V → Bool) (hq : Row K H a xs) (few : xs.length < sizeLine) (hw : ∀ x, wipe ((wipe σ vs).set i (some x)) vs = wipe σ vs)
    (hl : ∀ R : V → Hp → Prop, R (.ref a) H → tl σ H R)
    (ht : ∀ (x : V) (H' : Hp) (R : Bool → Hp → Prop), x ∈ xs → Same H H' → (∀ H'', Same H' H'' → R (t x) H'') → tt ((wipe σ vs).set i (some x)) H' R)
    (he : ∀ (x : V) (H' : Hp) (R : VK), x ∈ xs → t x = true → Same H H' → (∀ H'', Same H' H'' → R (f x) H'') → te ((wipe σ vs).set i (some x)) H' R)
    (q : ∀ (p : Addr) (H' : Hp), H p = none → H' p = some (.lst ((xs.filter t).map f)) → Same H H' → Q (.ref p) H') : tLc (iRow K tl) (gName i) tt te vs σ H Q := by
  have start : ∀ D, H D = none → Same H (upd H D (.lst [])) ∧ (upd H D (.lst [])) D = some (.lst (((xs.take 0).filter t).map f)) ∧ H D = none := fun D n => ⟨Same.neu n, by rw [List.take_zero]; exact upd_same, n⟩
  have fin : ∀ (D : Addr) (H' : Hp), (Same H H' ∧ H' D = some (.lst (((xs.take xs.length).filter t).map f)) ∧ H D = none) → Q (.ref D) H' := fun D H' ⟨s, e, n⟩ => q D H' n (by rw [List.take_length] at e; exact e) s
  rcases hq with hT | hL
  · refine .inr (hl _ ⟨a, rfl, ⟨_, hT⟩, fun D nD => ?_⟩)
    exact lc_tup (K := K) (a := a) (xs := xs) (fun j H' => Same H H' ∧ H' D = some (.lst (((xs.take j).filter t).map f)) ∧ H D = none) (start D nD) (fun j H' _ p => same_t p.1 hT) (lc_turn f t few hw ht he D) (fin D)
  · refine .inl (hl _ ⟨a, rfl, ⟨_, hL⟩, fun D nD => ?_⟩)
    exact lc_list (K := K) (a := a) (xs := xs) (fun j H' => Same H H' ∧ H' D = some (.lst (((xs.take j).filter t).map f)) ∧ H D = none) (start D nD) (fun j H' _ p => same_l p.1 hL) (lc_turn f t few hw ht he D) (fin D)

/-- .. where the list is what an expression has just given -/
theorem lc_rowL {K : PySem.W.Frag} {a : Addr} {xs : List V} {i : Nat} {vs : List Nat} {σ : L2.St} {H : Hp} {tt : TT} {te : TE} {Q : VK} (f : V → V) (t : V → Bool) (hq : SqL K H a xs) (few : xs.length < sizeLine) (hw : ∀ x, wipe ((wipe σ vs).set i (some x)) vs = wipe σ vs)
    (ht : ∀ (x : V) (H' : Hp) (R : Bool → Hp → Prop), x ∈ xs → Same H H' → (∀ H'', Same H' H'' → R (t x) H'') → tt ((wipe σ vs).set i (some x)) H' R)
    (he : ∀ (x : V) (H' : Hp) (R : VK), x ∈ xs → t x = true → Same H H' → (∀ H'', Same H' H'' → R (f x) H'') → te ((wipe σ vs).set i (some x)) H' R)
    (q : ∀ (p : Addr) (H' : Hp), H p = none → H' p = some (.lst ((xs.filter t).map f)) → Same H H' → Q (.ref p) H') : tLc (iList K (tC (.ref a))) (gName i) tt te vs σ H Q := by
  have start : ∀ D, H D = none → Same H (upd H D (.lst [])) ∧ (upd H D (.lst [])) D = some (.lst (((xs.take 0).filter t).map f)) ∧ H D = none := fun D n => ⟨Same.neu n, by rw [List.take_zero]; exact upd_same, n⟩
  have fin : ∀ (D : Addr) (H' : Hp), (Same H H' ∧ H' D = some (.lst (((xs.take xs.length).filter t).map f)) ∧ H D = none) → Q (.ref D) H' := fun D H' ⟨s, e, n⟩ => q D H' n (by rw [List.take_length] at e; exact e) s
  refine ⟨a, rfl, ⟨_, hq⟩, fun D nD => ?_⟩
  exact lc_list (K := K) (a := a) (xs := xs) (fun j H' => Same H H' ∧ H' D = some (.lst (((xs.take j).filter t).map f)) ∧ H D = none) (start D nD) (fun j H' _ p => same_l p.1 hq) (lc_turn f t few hw ht he D) (fin D)
theorem pLc {K : PySem.W.Frag} {g : TG} {tt : TT} {te tl : TE} {vs : List Nat} {σ : L2.St} {H : Hp} {Q : VK} (h : tl σ H fun x H1 => tLc (iList K (tC x)) g tt te vs σ H1 Q) : tLc (iList K tl) g tt te vs σ H Q := h
/-! ### own errors of one field -/
/-- what the text has of an own error's class, its __init__ at f -/
structure ErrC (K : PySem.W.Frag) (mg : Str → Option Value) (x : Str) (C f : Addr) (fd : FuncData) (qual : Str) (st : Stmt) (ps : List Str) : Prop where
  O : OexC K C
  iC : PySem.W.findIn K (.ref C) "__init__" = some (some (.ref f))
  tI : PySem.W.typeIn K (.ref f) = some (.type "function")
  F : Fun K "__init__" qual st f fd
  b : Binds K fd ps []
  m : mg x = some (.ref C)
  E : ExcC K C
  X : XfC K C
/-- self.part = part -/
def spErr (K : PySem.W.Frag) (C : Addr) (g : Str) : Sp := fun vs H Q _ => ∃ (a : Addr) (v : V), vs = [.ref a, v] ∧ OexC K C ∧ PySem.W.findIn K (.ref C) g = some none ∧ H a = some (exo a C none) ∧
  ∀ (d : Addr) (H' : Hp), H d = none → d ≠ a → H' = upd (upd H d (exd d [(g, v)])) a (exo a C (some d)) → Q .non H'
/-- raise C(v): what is asked -/
theorem mk_err {K : PySem.W.Frag} {C : Addr} {g : Str} {H : Hp} {v : V} {Q : XK} {σ : L2.St} {ta : TA} (O : OexC K C) (no : PySem.W.findIn K (.ref C) g = some none) (ha : ∀ R : List V → Hp → Prop, R [v] H → ta σ H R)
    (q : ∀ (d : Addr) (H' : Hp), H d = none → H' d = some (.xd [(g, v)]) → Same H H' → Q (.ref C) (some d) H') : tMkO C (spErr K C g) [] ta σ H Q := by
  refine ha _ ⟨by show 1 ≤ 1000; decide, fun a na => ⟨a, v, rfl, O, no, upd_same, fun d H' nd nda e => ⟨rfl, d, [(g, v)], ?_, ?_, ?_, ?_⟩⟩⟩
  · rw [e]; exact upd_same
  · rw [e, upd_ne nda]; exact upd_same
  · rw [upd_ne nda] at nd; exact nd
  · have nd1 : H d = none := by rw [upd_ne nda] at nd; exact nd
    refine q d _ nd1 upd_same fun b o h => ?_
    have b1 : b ≠ d := ne_of_none h nd1
    have b2 : b ≠ a := ne_of_none h na
    rw [upd_ne b1, del_ne b2, e, upd_ne b2, upd_ne b1, upd_ne b2]
    exact h
/-! ### words kept by a list of pairs of a text and a truth -/
/-- the truths of two or three pairs, and the words that are so -/
def Pairs (K : PySem.W.Frag) (H : Hp) : List V → List (Str × Bool) → Prop
  | [], [] => True
  | v :: vs, p :: ps => (∃ t, v = .ref t ∧ SqT K H t [.str p.1, .bl p.2]) ∧ Pairs K H vs ps
  | _, _ => False
theorem Pairs.get {K : PySem.W.Frag} {H : Hp} : ∀ {vs : List V} {ps : List (Str × Bool)} {i : Nat} {v : V}, Pairs K H vs ps → vs[i]? = some v → ∃ p t, ps[i]? = some p ∧ v = .ref t ∧ SqT K H t [.str p.1, .bl p.2]
  | v :: vs, p :: ps, 0, _, h, e => by
    obtain ⟨⟨t, e1, e2⟩, _⟩ := h
    simp at e
    exact ⟨p, t, rfl, by rw [← e, e1], e2⟩
  | v :: vs, p :: ps, i + 1, x, h, e => by
    obtain ⟨q, t, h1, h2⟩ := Pairs.get (i := i) (v := x) h.2 (by simpa using e)
    exact ⟨q, t, by simpa using h1, h2⟩
theorem Pairs.len {K : PySem.W.Frag} {H : Hp} : ∀ {vs : List V} {ps : List (Str × Bool)}, Pairs K H vs ps → vs.length = ps.length
  | [], [], _ => rfl
  | _ :: _, _ :: _, h => by rw [List.length_cons, List.length_cons, Pairs.len h.2]
/-- [word for word, is_so in kinds if is_so] -/
theorem lc_words {K : PySem.W.Frag} {a : Addr} {vs : List V} {ps : List (Str × Bool)} {i j : Nat} {ow : List Nat} {σ : L2.St} {H : Hp} {tl : TE} {Q : VK} (hq : H a = some (.lst vs)) (hp : Pairs K H vs ps) (few : vs.length ≤ 1000) (ij : i ≠ j) (hw : ∀ x y, wipe (((wipe σ ow).set i (some x)).set j (some y)) ow = wipe σ ow)
    (hi : ∀ x y, (((wipe σ ow).set i (some x)).set j (some y))[i]? = some (some x)) (hj : ∀ x y, (((wipe σ ow).set i (some x)).set j (some y))[j]? = some (some y)) (hl : ∀ R : V → Hp → Prop, R (.ref a) H → tl σ H R)
    (q : ∀ (p : Addr) (H' : Hp), H p = none → H' p = some (.lst ((ps.filter (·.2)).map fun p => V.str p.1)) → Same H H' → Q (.ref p) H') :
    tLc (iList K tl) (gTup K 2 (gCons (gName i) (gCons (gName j) gNil))) (fun σ H R => tVar j σ H fun x H' => ∃ d, x = .bl d ∧ R d H') (tVar i) ow σ H Q := by
  refine hl _ ⟨a, rfl, ⟨_, SqL.of hq⟩, fun D nD => ?_⟩
  refine lc_list (K := K) (a := a) (xs := vs) (g := gTup K 2 (gCons (gName i) (gCons (gName j) gNil))) (tt := fun σ H R => tVar j σ H fun x H' => ∃ d, x = .bl d ∧ R d H') (te := tVar i) (vs := ow) (σ := σ) (Qd := fun H => Q (.ref D) H) (fun k H' => Same H H' ∧ H' D = some (.lst (((ps.take k).filter (·.2)).map fun p => V.str p.1)) ∧ H D = none) ⟨Same.neu nD, by rw [List.take_zero]; exact upd_same, nD⟩ (fun k H' _ p => same_l p.1 (SqL.of hq)) (fun k x H' hx p => ?_) (fun H' p => ?_)
  · obtain ⟨s, e, n⟩ := p
    obtain ⟨pr, t, hpr, rfl, ht⟩ := hp.get hx
    refine ⟨t, _, rfl, same_t s ht, rfl, _, _, rfl, _, _, rfl, rfl, hw _ _, _, hj _ _, _, rfl, ?_⟩
    have tk : ps.take (k + 1) = ps.take k ++ [pr] := by rw [List.take_add_one, hpr]; rfl
    cases b : pr.2 with
    | true =>
      refine iteT ⟨_, hi _ _, _, e, ?_, fun c o h => ?_, ?_, n⟩
      · rw [List.length_map]
        have h1 := List.length_filter_le (fun p : Str × Bool => p.2) (ps.take k)
        have h3 := List.length_take_le' k ps
        have h4 := hp.len
        have : sizeLine = 16777216 := by decide
        omega
      · rw [upd_ne (ne_of_none h n)]
        exact s _ _ h
      · rw [upd_same, tk, List.filter_append, List.map_append]
        simp [b]
    | false =>
      refine iteF ⟨s, ?_, n⟩
      rw [e, tk, List.filter_append]
      simp [b]
  · obtain ⟨s, e, n⟩ := p
    rw [hp.len, List.take_length] at e
    exact q D H' n e s
end Nv

set_option maxRecDepth 100000
set_option maxHeartbeats 4000000
namespace Nv
open PySem PySem.Spec PyProof.Rows L2
section
variable {prog : Program} {w : World} {A : Around} {E : Value → Shared → Prop} {s : Shared} {K : PySem.W.Frag} {x C f : Addr} {ox : Obj} {od : Option Obj} {name : Str} {b tb : Value}
theorem bound_slot {M : Model} {args : List Value} {id : String} {Q : Option Value → Shared → Prop} (X : K.In s.heap) (I : PySem.W.InstAt s.heap x ox C od) (at_ : PySem.W.findIn K (.ref C) name = some (some (.builtin id)))
    (bnd : ∀ self, bindSpecial (.builtin id) self = pure (.builtin id, [self])) (q : wpAny M A (call (.builtin id) (.ref x :: args)) (fun v => Q (some v)) E s) : wpAny M A (callSpecialIfBound? (.ref x) name args) Q E s := by
  have L : PySem.W.Looks M s.heap (bindSpecial (.builtin id) (.ref x)) (.builtin id, [.ref x]) := PySem.W.Looks.of_pure (bnd (.ref x))
  have goal : wpAny M A (call (.builtin id) ([.ref x] ++ args) >>= fun v => pure (some v)) Q E s := wpAny_bind (wpAny_mono q (fun v s' z => wpAny_pure z) fun _ _ z => z)
  simp only [callSpecialIfBound?, bindSpecialIfBound?]
  refine wpAny_holding (wpAny_bind (wpAny_bind (wpAny_bind (I.type.here ((PySem.W.looks_findIn X at_).here ?_)))))
  refine wpAny_bind (wpAny_askSetting (wpAny_ite ?_))
  split
  · exact wpAny_bind (L.here (wpAny_pure (by exact goal)))
  · exact wpAny_tryCatch (wpAny_bind (L.here (wpAny_pure (by exact goal))))
/-- x != b, by the class's own __eq__ -/
theorem ne_own {Q : Value → Shared → Prop} (hu : A.units + 1 < cLine) (X : K.In s.heap) (I : PySem.W.InstAt s.heap x ox C od) (ty : PySem.W.Looks (model prog w) s.heap (typeOf b) tb) (nf : PySem.W.notFirst K C tb = true)
    (ne : PySem.W.findIn K (.ref C) "__ne__" = some (some (.builtin "object.__ne__"))) (eq : PySem.W.findIn K (.ref C) "__eq__" = some (some (.ref f))) (fn : PySem.W.isFn K (.ref f) = true) (ob : PySem.W.mroIn K C (.type "object") = some true)
    (q : wpAny (model prog w) A.in1 (call (.ref f) [.ref x, b]) (fun v s' => ∃ r, v = .bool r ∧ Q (.bool (!r)) s') E s) : wpAny (model prog w) A (richCompare .NotEq (.ref x) b) Q E s := by
  have body : wpAny (model prog w) A.in1 (Builtin.«object.__ne__» ⟨[.ref x, b], []⟩) (fun fin s' => ∃ r, fin = .done (.ret (.bool (!r))) ∧ Q (.bool (!r)) s') E s := by
    obtain ⟨hp, g, d, t, os⟩ := s
    have hu1 : A.in1.units < cLine := by simpa using hu
    unfold Builtin.«object.__ne__»
    repeat (first
      | with_reducible refine wpAny_cRoomFor hu1 ?_
      | (refine wpAny_bind (m := callSpecialIfBound? (.ref x) (Str.ofString "__eq__") [b])
          (PySem.W.ifBound_K X I eq fn (wpAny_mono q (fun r s' hr => by
            obtain ⟨r0, rfl, hq⟩ := hr
            repeat (first | exact ⟨r0, rfl, hq⟩ | exact wpAny_pure ⟨r0, rfl, hq⟩ | (refine wpAny_bind (m := truthy (.bool _)) (wpAny_truthy_bool ?_)) | wp_step)) fun _ _ e => e)))
      | wp_step)
  have one : wpAny (model prog w) A (tryCompare (.ref x) "__ne__" b) (fun r s' => ∃ v, r = some v ∧ Q v s') E s := by
    unfold tryCompare
    have isO : PySem.W.Looks (model prog w) s.heap (isInstance (.ref x) (.type "object")) true := I.type.andThen (PySem.W.looks_mroIn X ob)
    refine wpAny_bind (bound_slot X I ne PySem.F.slot_object_ne.bind (wpAny_call (codeAny_call_builtin PySem.F.slot_object_ne.plain PySem.F.cmpEntry_ne ?_)))
    refine PySem.W.check_slot (owner := "object") (n := "__ne__") PySem.F.cmpKind_ne PySem.F.cmpSplit_ne isO (PySem.F.cmpArgs_ne _ _) ?_
    refine wpAny_mono body (fun fin s' z => ?_) fun _ _ e => e
    obtain ⟨r, rfl, hq⟩ := z
    first | exact ⟨_, rfl, wpAny_pure hq⟩ | exact wpAny_pure ⟨_, rfl, hq⟩ | exact ⟨_, rfl, hq⟩
  unfold richCompare
  simp only [oneThing_ref]
  refine wpAny_holding (wpAny_bind (wpAny_cRoomFor (by omega) ?_))
  rw [cmpInfo_NotEq]
  dsimp only
  refine wpAny_bind (I.type.here (wpAny_bind (ty.here ?_)))
  split
  · rename_i z
    have e : PySem.W.subIn K tb (.ref C) = some false := by
      rcases Bool.or_eq_true_iff.mp nf with e | e
      · rw [beq_iff_eq.mp e] at z; simp at z
      · exact beq_iff_eq.mp e
    refine wpAny_bind ((PySem.W.looks_subIn X e).here ?_)
    simp only [Bool.false_eq_true, if_false]
    refine wpAny_bind (wpAny_mono one (fun r s' y => ?_) fun _ _ e => e)
    obtain ⟨v, rfl, hq⟩ := y
    exact wpAny_pure hq
  · refine wpAny_bind (wpAny_pure ?_)
    simp only [Bool.false_eq_true, if_false]
    refine wpAny_bind (wpAny_mono one (fun r s' y => ?_) fun _ _ e => e)
    obtain ⟨v, rfl, hq⟩ := y
    exact wpAny_pure hq
end
/-- x == y, x != y: x an instance whose class has an own __eq__ that keeps sp -/
def rOwnC (neg : Bool) (K : PySem.W.Frag) (C : Addr) (sp : Sp) (E : XK) : R2 := fun x y H Q => ∃ (a dx : Addr) (fs : List (Str × V)) (t : Value), x = .ref a ∧ H a = some (.ins C dx fs) ∧ TyX K H y t ∧ PySem.W.notFirst K C t = true ∧
  sp [x, y] H (fun v H' => ∃ r, v = .bl r ∧ Q (.bl (if neg then !r else r)) H') E
/-- what the class must have -/
structure OwnC (K : PySem.W.Frag) (C f : Addr) : Prop where
  eq : PySem.W.findIn K (.ref C) "__eq__" = some (some (.ref f))
  fn : PySem.W.isFn K (.ref f) = true
  ne : PySem.W.findIn K (.ref C) "__ne__" = some (some (.builtin "object.__ne__"))
  ob : PySem.W.mroIn K C (.type "object") = some true
section
variable {X : Cx} {CX : CXT} {k : Nat} {C f : Addr} {fd : FuncData} {ps : List Str} {sp : Sp} {E : XK} {A : Around}
theorem own_call {pins : List (Addr × Obj)} {σ : L2.St} {H : Hp} {s : Shared} {Q : VK} {x y : V} {u v : Value} (F : FnOk X.prog X.w X.K X.mg X.base CX k f fd ps sp) (bnd : Binds X.K fd ps []) (out : Passes CX X E) (I : Inv X pins σ H s) (fr : A.frames = X.A.frames) (room : Room k A)
    (rx : RelV x u) (ry : RelV y v) (h : sp [x, y] H Q E) : wpAny (model X.prog X.w) A (call (.ref f) [u, v]) (EP X pins σ Q) X.xe s := by
  have e0 : Env0 X.prog X.w X.K X.mg X.base A X.stack s H := by
    have e := I.env0
    exact ⟨by rw [fr]; exact e.frames, e.mod, e.bs, e.bsz, e.funs, e.frf, e.hok, e.bare⟩
  have ln := F.len _ _ _ _ h
  have r2 : Vals [x, y] [u, v] := .cons rx (.cons ry .nil)
  refine wpAny_call (codeAny_mono (F.run A X.stack s H ⟨[u, v], []⟩ [u, v] [x, y] _ E room e0 (by
    have z := bnd s [u, v] I.kIn (by simpa using ln)
    simpa using z) r2 h) fun r s' hq => ?_)
  cases r with
  | error e => exact out pins σ H s e s' I hq
  | ok fl =>
    cases fl with
    | ret z => exact I.after hq
    | next => exact False.elim hq
    | brk => exact False.elim hq
    | cont => exact False.elim hq
theorem op_eqOwn (T : OwnC X.K C f) (F : FnOk X.prog X.w X.K X.mg X.base CX k f fd ps sp) (bnd : Binds X.K fd ps []) (out : Passes CX X E) (room : Room k X.A) : OpR X (compareOp .Eq) (rOwnC false X.K C sp E) := by
  intro pins s σ H x y v u Q I rx ry ⟨a, dx, fs, t, e, h1, ty, nf, h⟩
  subst e
  cases (show v = Value.ref a from rx)
  obtain ⟨mA, J, _⟩ := ins_get I.hok h1
  obtain ⟨od, J, _⟩ := J.look
  obtain ⟨m, hF⟩ := I.fr
  obtain ⟨P, Z, p, _⟩ := kit_of I ry ty
  show wpAny (model X.prog X.w) X.A (richCompare .Eq (.ref a) u) (EP X pins σ Q) X.xe s
  refine PySem.W.cmp_K (op := .Eq) (tb := t) room.units0 hF I.ok.mod.kin J (Z.ty _ _ I.kIn p) nf T.eq T.fn ?_
  refine wpAny_mono (own_call (x := .ref a) F bnd out I rfl room rfl ry h) (fun z s' hz => ?_) fun _ _ e => e
  obtain ⟨v', H', I', rz, r, e, q⟩ := hz
  subst e
  cases (show z = Value.bool r from rz)
  exact ⟨.bl r, H', I', rfl, q⟩
theorem op_neOwn (T : OwnC X.K C f) (F : FnOk X.prog X.w X.K X.mg X.base CX k f fd ps sp) (bnd : Binds X.K fd ps []) (out : Passes CX X E) (room : Room (k + 1) X.A) : OpR X (compareOp .NotEq) (rOwnC true X.K C sp E) := by
  intro pins s σ H x y v u Q I rx ry ⟨a, dx, fs, t, e, h1, ty, nf, h⟩
  subst e
  cases (show v = Value.ref a from rx)
  obtain ⟨mA, J, _⟩ := ins_get I.hok h1
  obtain ⟨od, J, _⟩ := J.look
  obtain ⟨P, Z, p, _⟩ := kit_of I ry ty
  show wpAny (model X.prog X.w) X.A (richCompare .NotEq (.ref a) u) (EP X pins σ Q) X.xe s
  refine ne_own (tb := t) (by have := room.units; omega) I.kIn J (Z.ty _ _ I.kIn p) nf T.ne T.eq T.fn T.ob ?_
  refine wpAny_mono (own_call (x := .ref a) F bnd out I (by rfl) room.in1 rfl ry h) (fun z s' hz => ?_) fun _ _ e => e
  obtain ⟨v', H', I', rz, r, e, q⟩ := hz
  subst e
  cases (show z = Value.bool r from rz)
  exact ⟨r, rfl, .bl (!r), H', I', rfl, q⟩
end
end Nv

set_option maxRecDepth 100000
set_option maxHeartbeats 4000000
namespace Nv
open PySem PySem.Spec PyProof.Rows L2 LamX
/-- as FnG.of, the def's code object told -/
theorem FnG.ofC {P : Program} {w : World} {K : PySem.W.Frag} {mg : Str → Option Value} {base : Heap} {x qual : Str} {st : Stmt} {f c : Addr} {fd : FuncData} {N ps : List Str} {k : Nat} {sp : Sp}
    (F : Fun K x qual st f fd) (hcode : fd.code = .ref c) (S : FnScope N ps (defScope st)) (ar : ∀ vs H Q E, sp vs H Q E → vs.length = ps.length)
    (walk : ∀ (A : Around) (fr : List Env) (s : Shared) (H : Hp) (vs : List V) (Q : VK) (E : XK), A.guards = some [] → Room k (A.deeper (envOfC qual (defScope st) s.heap.objs.size f (.ref c))) → sp vs H Q E →
      ∃ t, PSs (cxOf CX0 P w K mg base N qual (defScope st) f (.ref c) A fr s H E).nox (defBody st) t ∧ t { nx := fun _ H' => Q .non H', rt := Q } (start N vs) H) : FnG P w K mg base (k + 1) f fd ps sp := by
  obtain ⟨g1, g2, g3, g4, g5, g6, cdv, g7, g8, rfl, known, isCode⟩ := F.ex
  cases (show cdv = .ref c from hcode)
  refine ⟨ar, fun A fr s H ag us vs Q E noGuard room e0 bnd rel wish => ?_⟩
  have kin : K.In s.heap := e0.mod.kin.keeps fun b o e => (e0.bs b o e).1
  have unlim : s.heap.NoLimit := e0.mod.nolimit.keeps fun b o e => (e0.bs b o e).1
  have slots : ∀ y ∈ ps.zip us, (defScope st).names.lookup y.1 = some .local ∨ ((defScope st).names.lookup y.1 = some .cell ∧ ((cellsFrom (s.heap.objs.size + 1) (defScope st).names []).lookup y.1).isSome = true) := fun ⟨n, v⟩ hy => by
    rcases S.par n (List.of_mem_zip hy).1 with z | z
    · exact .inl z
    · exact .inr ⟨z, PySem.W.cellsFrom_some _ _ _ (.inl z)⟩
  refine codeAny_call_function room.depth (kin _ _ known) rfl S.co S.gen rfl (PySem.W.codeRec_of kin isCode) (bnd _ _ _ _ ?_)
  refine wpAny_newFunctionEnv_cells S.kind slots fun env eenv s1 grown => ?_
  subst eenv
  refine ⟨unlim.keeps grown.toInCall.keep, codeAny_func ?_⟩
  obtain ⟨t, ht, hq⟩ := walk A fr s H vs Q E noGuard (room.deeper _) wish
  have I : Inv (cxOf CX0 P w K mg base N qual (defScope st) f (.ref c) A fr s H E) [] (start N vs) H s1 := inv_start S room.hd e0 (ar _ _ _ _ wish) rel grown
  refine wpAny_mono (ht.nox.run [] s1 (start N vs) H _ I hq) (fun fl s' hs => ?_) fun e s' hs => hs
  have last : ∀ {σ' : L2.St} {H' : Hp} {v : V} {u : Value}, Inv (cxOf CX0 P w K mg base N qual (defScope st) f (.ref c) A fr s H E) [] σ' H' s' → RelV v u → Q v H' → CE fr P w H s Q u s' :=
    fun {σ' H' v u} J rv q => ⟨v, H', J.os, J.bare, J.base, J.hok, rv, q⟩
  cases fl with
  | brk => exact hs.choose_spec.choose_spec.2.elim
  | cont => exact hs.choose_spec.choose_spec.2.elim
  | next =>
    obtain ⟨σ', H', J, q⟩ := hs
    exact last (v := V.non) (u := Value.none) J rfl q
  | ret u =>
    obtain ⟨v, σ', H', J, rv, q⟩ := hs
    exact last J rv q

section
variable {P : Program} {w : World} {K : PySem.W.Frag} {mg mb : Str → Option Value} {k : Nat} {fa a : Addr} {fd : FuncData} {x : Str} {sp : Sp} {s1 : Shared} {vs : List Value} {ns : List Int} {cs : List (Addr × Addr)}
/-- the tables of code objects are empty and told -/
def Tab0 (cs : List (Addr × Addr)) (H : Hp) : Prop := ∀ p ∈ cs, H p.2 = some (.tbl #[])
theorem callGT (inK : K.In s1.heap) (gns : s1.heap.Ns mainGlobals mg) (bns : s1.heap.Ns builtinsNs mb) (bbo : ∀ x : Str, x ≠ "__name__" → mb x = bootBuiltins x) (nol : s1.heap.NoLimit) (nog : s1.gens = #[])
    (tabs : ∀ p ∈ cs, s1.heap.get? p.2 = some (PySem.W.tabObj #[])) (tabK : ∀ p ∈ cs, K.lookup p.2 = none) (codes : ∀ p ∈ cs, PySem.W.CodeHd s1.heap p.1 p.2)
    (bmain : ∃ (bm : Addr) (ob : Obj), mg "__builtins__" = some (.ref bm) ∧ bm ≠ builtinsNs ∧ s1.heap.get? bm = some ob ∧ ob.cls = .type "module" ∧ ob.dict = some builtinsNs ∧ ob.data = .plain)
    (scr : s1.heap.get? a = some { cls := .type "list", data := .seq vs.toArray }) (nums : IntsAre vs ns) (len : ns.length ≤ sizeLine) (room : Room k callerA)
    (F : ∀ base : Heap, K.In base → base.Ns mainGlobals mg → (∀ p ∈ cs, TabB base mg p.1 p.2) → FnG P w K mg base k fa fd [x] sp) (bnd : ∀ (s : Shared) (u : Value), BindsTo s fd ⟨[u], []⟩ [(x, u)])
    (due : ∀ H : Hp, Tab0 cs H → SqL K H a (ns.map V.int) → sp [.ref a] H (fun v _ => v = .bl true) fun _ _ _ => False) :
    codeAny (model P w) callerA (.call (.ref fa) ⟨[.ref a], []⟩) (LawEnd s1) s1 := by
  have rel := vals_ints nums
  have cnt := nums.length
  have tabAt : ∀ {b : Addr}, (∃ p ∈ cs, p.2 = b) → s1.heap.get? b = some (PySem.W.tabObj #[]) := fun ⟨p, hp, e⟩ => e ▸ tabs p hp
  have apart : ¬ ∃ p ∈ cs, p.2 = a := fun z => by
    have g := tabAt z
    rw [scr] at g
    cases (show Data.seq vs.toArray _ = Data.fields #[] from congrArg Obj.data (Option.some.inj g))
  have main : ∀ H : Hp, Tab0 cs H → (∀ b, H b = none ∨ (∃ p ∈ cs, p.2 = b) ∨ ∃ o xs, H b = some (.frz o (.lst xs))) → SqL K H a (ns.map V.int) → HOk P w H s1.heap → (∀ b, H b ≠ none → b = a ∨ ∃ p ∈ cs, p.2 = b) → (H a ≠ none → K.lookup a = none) →
      codeAny (model P w) callerA (.call (.ref fa) ⟨[.ref a], []⟩) (LawEnd s1) s1 := by
    intro H tab kind seq okH own notK
    have low : ∀ {b : Addr} {o : Obj}, s1.heap.get? b = some o → H b = none → (hidT s1.heap H).get? b = some o := fun g n => hidT_get g n
    have free : ∀ {b : Addr} {o : Obj}, s1.heap.get? b = some o → (∀ us n, o.data ≠ .seq us n) → o.data ≠ .fields #[] → H b = none := fun {b o} g h1 h2 => by
      cases c : H b with
      | none => rfl
      | some u =>
        rcases own b (by rw [c]; simp) with z | z
        · rw [z, scr] at g
          cases g
          exact absurd rfl (h1 _ _)
        · rw [tabAt z] at g
          cases g
          exact absurd rfl h2
    have dictFree : ∀ {b : Addr} {o : Obj} {es : Array DictEntry} {ep : Nat}, s1.heap.get? b = some o → o.data = .dict es ep → H b = none := fun {b o es ep} g d =>
      free g (fun us n z => by rw [d] at z; cases z) fun z => by rw [d] at z; cases z
    have lowNs : ∀ {b : Addr} {m : Str → Option Value}, s1.heap.Ns b m → (hidT s1.heap H).Ns b m := fun {b m} ⟨o, es, ep, g, d, r⟩ => ⟨o, es, ep, low g (dictFree g d), d, r⟩
    have lowK : K.In (hidT s1.heap H) := fun b o e => low (inK b o e) (by
      cases c : H b with
      | none => rfl
      | some u =>
        rcases own b (by rw [c]; simp) with z | ⟨p, hp, z⟩
        · rw [z] at c e
          rw [notK (by rw [c]; simp)] at e
          cases e
        · rw [← z, tabK p hp] at e
          cases e)
    have modu : Mod K mg (hidT s1.heap H) := ⟨lowK, lowNs gns, ⟨mb, lowNs bns, bbo⟩, let ⟨mc, c1, c2⟩ := nol; ⟨mc, lowNs c1, c2⟩⟩
    have tb : ∀ p ∈ cs, TabB (hidT s1.heap H) mg p.1 p.2 := fun p hp => by
      have atP := tabs p hp
      obtain ⟨go, ges, gep, gg, gd, gr⟩ := id gns
      refine ⟨?_, ?_, fun z => ?_⟩
      · obtain ⟨o, fs, d1, d2, d3, d4, d5, d6, d7, g, r1, r2, r3, rest⟩ := codes p hp
        exact ⟨o, fs, d1, d2, d3, d4, d5, d6, d7, low g (free g (fun us n z => by rw [r2] at z; cases z) fun z => by
          rw [r2] at z
          cases z
          simp at r3), r1, r2, r3, rest⟩
      · obtain ⟨bm, ob, b1, b2, b3, b4, b5, b6⟩ := bmain
        have n1 : bm ≠ mainGlobals := fun z => by
          rw [z, gg] at b3
          cases b3
          rw [gd] at b6
          cases b6
        have n2 : bm ≠ p.2 := fun z => by
          rw [z, atP] at b3
          cases b3
          cases b6
        exact ⟨bm, ob, b1, b2, n1, n2, low b3 (free b3 (fun us n z => by rw [b6] at z; cases z) fun z => by rw [b6] at z; cases z), b4, b5, b6⟩
      · rw [z, atP] at gg
        cases gg
        cases gd
    have env0 : Env0 P w K mg (hidT s1.heap H) callerA [] s1 H := ⟨rfl, modu, fun b o e => of_hidT e, Nat.le_of_eq (hidT_size _ _), trivial, fun b hb => absurd (show b ∈ ([] : List Addr) from hb) (by simp), okH, .of_eq nog⟩
    refine codeAny_mono ((F _ lowK (lowNs gns) tb).go callerA [] s1 H ⟨[.ref a], []⟩ [.ref a] [.ref a] _ _ rfl room env0 (bnd s1 (.ref a)) (.cons rfl .nil) (due H tab seq)) fun r s' h => ?_
    cases r with
    | error e => exact False.elim h
    | ok fl =>
      cases fl with
      | brk => exact False.elim h
      | cont => exact False.elim h
      | next => exact False.elim h
      | ret u =>
        obtain ⟨v, H', sameOs, bare', unt, okH', rl, good⟩ := h
        obtain rfl : v = .bl true := good
        obtain rfl : u = Value.bool true := rl
        have stays : ∀ b o, (¬ ∃ p ∈ cs, p.2 = b) → s1.heap.get? b = some o → s'.heap.get? b = some o := fun b o nt g => by
          cases c : H b with
          | none => exact unt.keep b o g c (by intro z; exact absurd (show b ∈ ([] : List Addr) from z) (by simp)) (by simp)
          | some u =>
            rcases kind b with z | z | ⟨ob, xs, z⟩
            · rw [c] at z; cases z
            · exact absurd z nt
            · obtain ⟨g1, _⟩ := okH b _ z
              obtain ⟨g2, _⟩ := okH' b _ (unt.frzs b ob _ z)
              rw [g] at g1; cases g1
              exact g2
        have more : ∀ p ∈ cs, ∃ us : Array Value, s'.heap.get? p.2 = some (PySem.W.tabObj us) := fun p hp =>
          let ⟨us, z⟩ := unt.tbls p.2 #[] (tab p hp)
          ⟨_, okH' p.2 _ z⟩
        refine ⟨rfl, ⟨fun b o g => ?_, fun b o g => ?_⟩, sameOs, bare'⟩
        · by_cases nt : ∃ p ∈ cs, p.2 = b
          · obtain ⟨p, hp, rfl⟩ := nt
            obtain ⟨us, z⟩ := more p hp
            rw [tabs p hp] at g
            cases g
            exact .inr (.inl ⟨((codes p hp).tab (tabs p hp)).isCodeTable, rfl, #[], us, rfl, by rw [Array.empty_append]; exact z⟩)
          · exact .inl (stays b o nt g)
        · by_cases nt : ∃ p ∈ cs, p.2 = b
          · obtain ⟨p, hp, rfl⟩ := nt
            obtain ⟨us, z⟩ := more p hp
            exact ⟨_, z⟩
          · exact ⟨o, stays b o nt g⟩
  cases inn : K.lookup a with
  | some o =>
    have g := inK a o inn
    rw [scr] at g
    cases g
    refine main (fun b => if ∃ p ∈ cs, p.2 = b then some (.tbl #[]) else none) (fun p hp => if_pos ⟨p, hp, rfl⟩) (fun b => ?_) (.inr ⟨_, vs.toArray, _, inn, rfl, rfl, rfl, by rw [List.size_toArray, cnt]; exact len, by simpa using rel⟩) (fun b u z => ?_) (fun b z => ?_)
      fun z => absurd (if_neg apart) z
    · by_cases t : ∃ p ∈ cs, p.2 = b
      · exact .inr (.inl t)
      · exact .inl (if_neg t)
    · by_cases t : ∃ p ∈ cs, p.2 = b
      · have y := (if_pos t).symm.trans z
        cases y
        exact tabAt t
      · have y := (if_neg t).symm.trans z
        cases y
    · by_cases t : ∃ p ∈ cs, p.2 = b
      · exact .inr t
      · exact absurd (if_neg t) z
  | none =>
    refine main (fun b => if b = a then some (.frz { cls := .type "list", data := .seq vs.toArray } (.lst (ns.map V.int))) else if ∃ p ∈ cs, p.2 = b then some (.tbl #[]) else none)
      (fun p hp => (if_neg fun z => apart ⟨p, hp, z⟩).trans (if_pos ⟨p, hp, rfl⟩)) (fun b => ?_) (.inl (.inr ⟨{ cls := .type "list", data := .seq vs.toArray }, if_pos rfl⟩)) (fun b u z => ?_) (fun b z => ?_) fun _ => inn
    · by_cases e : b = a
      · exact .inr (.inr ⟨_, _, if_pos e⟩)
      · by_cases t : ∃ p ∈ cs, p.2 = b
        · exact .inr (.inl t)
        · exact .inl ((if_neg e).trans (if_neg t))
    · by_cases e : b = a
      · have y := (if_pos e).symm.trans z
        cases y
        rw [e]
        exact ⟨scr, by rw [List.length_map]; exact len, vs, _, rel, scr⟩
      · have y := (if_neg e).symm.trans z
        by_cases t : ∃ p ∈ cs, p.2 = b
        · have y2 := (if_pos t).symm.trans y
          cases y2
          exact tabAt t
        · have y2 := (if_neg t).symm.trans y
          cases y2
    · by_cases e : b = a
      · exact .inl e
      · by_cases t : ∃ p ∈ cs, p.2 = b
        · exact .inr t
        · exact absurd ((if_neg e).trans (if_neg t)) z
end
/-- what the end of a proof gives of the law at the head's heap h -/
def LawT (l : PySem.W.OpenLaw) (w : World) (K : PySem.W.Frag) (k n : Nat) (x : Str) (mg : Str → Option Value) (fa : Addr) (h : Heap) : Prop :=
  ∃ (fd : FuncData) (cs : List (Addr × Addr)) (sp : Sp), (∀ p ∈ cs, h.get? p.2 = some (PySem.W.tabObj #[]) ∧ K.lookup p.2 = none ∧ PySem.W.CodeHd h p.1 p.2) ∧ (∀ (s : Shared) (u : Value), BindsTo s fd ⟨[u], []⟩ [(x, u)]) ∧
    (∀ (H : Hp) (a : Addr) (ns : List Int), ns.length ≤ n → Tab0 cs H → SqL K H a (ns.map V.int) → sp [.ref a] H (fun v _ => v = .bl true) fun _ _ _ => False) ∧
    ∀ base : Heap, K.In base → base.Ns mainGlobals mg → (∀ p ∈ cs, TabB base mg p.1 p.2) → FnG l.prog w K mg base k fa fd [x] sp
theorem walkGT {l : PySem.W.OpenLaw} {n k : Nat} {q : Program} {loose : List Str} {XP : (Str → Option Value) → Heap → Prop} {YP : World → Heap → Prop} {d : DefRec} {K : Params → PySem.W.Frag} {x : Str}
    (most : l.most = some n) (small : n ≤ sizeLine) (nodef : d.params.defaults = []) (room : Room k callerA) (inK : ∀ (w : World) (h : Heap), YP w h → (K w.params).In h)
    (F : ∀ (w : World) (mg : Str → Option Value) (fa : Addr) (h : Heap), YP w h → (K w.params).In h → h.Ns mainGlobals mg → mg d.name = some (.ref fa) → LawT l w (K w.params) k n x mg fa h) :
    PySem.W.WalkO q loose XP YP l.row.toRowW d [] (fun f vs => PySem.call f vs) := by
  refine Att.attach_call most nodef fun w s0 s1 mg mb fa o pm cd doc a vs ns G Y hobj _ _ hmg scr nums len nog => ?_
  obtain ⟨fd, cs, sp, tc, bnd, due, ok⟩ := F w mg fa _ Y (inK w _ Y) G.T.g hmg
  exact callGT (inK w _ Y) G.T.g G.T.b G.T.builtins G.T.nolimit nog (fun p hp => (tc p hp).1) (fun p hp => (tc p hp).2.1) (fun p hp => (tc p hp).2.2) G.T.bmain scr nums (Nat.le_trans len small) room ok bnd fun H tab seq => due H a ns len tab seq
end Nv

set_option maxRecDepth 100000
set_option maxHeartbeats 4000000
namespace PySem.NestedKey
mutual
/-- for each leaf whether its hash is its value's -/
def leaves : NestedKey → List Bool
  | .none => [true]
  | .num _ => [true]
  | .text _ => [false]
  | .tup ks => leavesAll ks
def leavesAll : List NestedKey → List Bool
  | [] => []
  | k :: ks => leaves k ++ leavesAll ks
end
end PySem.NestedKey
namespace Nv
open PySem PySem.Spec PyProof.Rows L2
/-! ### sets of tuples of any depth to 8: numbers, texts, None within -/
section
variable {P : Program} {w : World} {A : Around} {E : Value → Shared → Prop} {s : Shared}
/-- the tuple at a is the key k -/
def NAt (P : Program) (w : World) (h : Heap) (k : NestedKey) (a : Addr) : Prop := (nestedKind P w).is h k a
theorem NAt.up {h g : Heap} {k : NestedKey} {a : Addr} (x : NAt P w h k a) (e : ∀ b o vs n, h.get? b = some o → o.data = .seq vs n → g.get? b = some o) : NAt P w g k a := ⟨NestedIs.at e _ _ x.1, x.2⟩
theorem NAt.later {h g : Heap} {k : NestedKey} {a : Addr} (x : NAt P w h k a) (e : ∀ b o, h.get? b = some o → g.get? b = some o) : NAt P w g k a := x.up fun b o _ _ q _ => e b o q
/-- a write to a set leaves it -/
theorem NAt.beside {h g : Heap} {k : NestedKey} {a c : Addr} {o : Obj} {es : Array (Int × Value)} {ep : Nat} {t : SetTable} (x : NAt P w h k a) (g1 : h.get? c = some o) (g2 : o.data = .set es ep t) (sb : Heap.SameBut c h g) : NAt P w g k a :=
  x.up fun b u vs n q d => by
    refine (sb.2 b fun z => ?_).trans q
    rw [z, g1] at q
    cases q
    rw [g2] at d
    cases d
mutual
theorem notClass : ∀ (k : NestedKey) (v : Value) (n : Nat) (A : Around) (E : Value → Shared → Prop) (s : Shared) (Q : Bool → Shared → Prop), NestedIs s.heap k v → k.depth ≤ n → Q false s → wpAny (model P w) A (ofAClassStatement n v) Q E s
  | .none, _, n, _, _, _, _, x, _, q => by
    cases x
    cases n <;> exact wpAny_pure q
  | .num i, _, n, _, _, _, _, x, _, q => by
    cases x <;> cases n <;> exact wpAny_pure q
  | .text y, _, n, _, _, _, _, x, _, q => by
    cases x
    cases n <;> exact wpAny_pure q
  | .tup ks, _, n, A, E, s, Q, x, d, q => by
    cases x with
    | @tup a o vs m _ g c dt all =>
      simp only [NestedKey.depth] at d
      obtain ⟨n, rfl⟩ : ∃ j, n = j + 1 := ⟨n - 1, by omega⟩
      unfold ofAClassStatement
      refine wpAny_bind (wpAny_typeOf ⟨o, g, c⟩ ?_)
      show wpAny _ _ ((if (("tuple" : String) == "tuple") = true then pure true else isSubtype (.type "tuple") (.type "tuple")) >>= _) _ _ s
      rw [if_pos (by decide)]
      refine wpAny_bind (wpAny_pure ?_)
      show wpAny _ _ (seqItems? (.ref a) >>= _) _ _ s
      refine wpAny_bind (wpAny_seqItems g dt ?_)
      show wpAny _ _ (forIn vs _ _ >>= _) _ _ s
      rw [← Array.forIn_toList]
      refine wpAny_bind ?_
      refine notClassAll ks vs.toList n A E s _ all (by omega) ?_
      exact wpAny_pure q
theorem notClassAll : ∀ (ks : List NestedKey) (vs : List Value) (n : Nat) (A : Around) (E : Value → Shared → Prop) (s : Shared) (Q : Option Bool × Unit → Shared → Prop), NestedAll s.heap ks vs → NestedKey.depthAll ks ≤ n → Q (none, ()) s →
    wpAny (model P w) A (forIn vs ((none, ()) : Option Bool × Unit) fun y _ => do
      if (← ofAClassStatement n y) = true then pure (ForInStep.done (some true, ())) else pure (ForInStep.yield (none, ()))) Q E s
  | [], _, _, _, _, _, _, x, _, q => by
    cases x
    exact wpAny_pure q
  | k :: ks, _, n, A, E, s, Q, x, d, q => by
    cases x with
    | cons x1 x2 =>
      simp only [NestedKey.depthAll] at d
      rw [List.forIn_cons]
      refine wpAny_bind (wpAny_bind (notClass k _ n A E s _ x1 (by omega) ?_))
      show wpAny _ _ (if false = true then _ else _) _ _ s
      rw [if_neg Bool.false_ne_true]
      exact wpAny_pure (notClassAll ks _ n A E s Q x2 (by omega) q)
end
mutual
theorem valHash : ∀ (k : NestedKey) (v : Value) (n : Nat) (A : Around) (E : Value → Shared → Prop) (s : Shared) (Q : Bool → Shared → Prop), NestedIs s.heap k v → (∀ x, x ∈ k.leaves → x = true) → k.depth ≤ n → Q true s → wpAny (model P w) A (hashByValue n v) Q E s
  | .none, _, n, _, _, _, _, x, _, _, q => by
    cases x
    cases n <;> exact wpAny_pure q
  | .num i, _, n, _, _, _, _, x, _, _, q => by
    cases x <;> cases n <;> exact wpAny_pure q
  | .text y, _, n, _, _, _, _, x, l, _, q => by
    exact absurd (l false (by simp [NestedKey.leaves])) (by decide)
  | .tup ks, _, n, A, E, s, Q, x, l, d, q => by
    cases x with
    | @tup a o vs m _ g c dt all =>
      simp only [NestedKey.depth] at d
      obtain ⟨n, rfl⟩ : ∃ j, n = j + 1 := ⟨n - 1, by omega⟩
      unfold hashByValue
      refine wpAny_bind (wpAny_specialOf ⟨o, g, c⟩ F.slot_tuple_hash.lookup ?_)
      show wpAny _ _ (seqItems? (.ref a) >>= _) _ _ s
      refine wpAny_bind (wpAny_seqItems g dt ?_)
      show wpAny _ _ (forIn vs _ _ >>= _) _ _ s
      rw [← Array.forIn_toList]
      refine wpAny_bind ?_
      refine valHashAll ks vs.toList n A E s _ all (fun y hy => l y (by simpa only [NestedKey.leaves] using hy)) (by omega) ?_
      exact wpAny_pure q
theorem valHashAll : ∀ (ks : List NestedKey) (vs : List Value) (n : Nat) (A : Around) (E : Value → Shared → Prop) (s : Shared) (Q : Option Bool × Unit → Shared → Prop), NestedAll s.heap ks vs → (∀ x, x ∈ NestedKey.leavesAll ks → x = true) → NestedKey.depthAll ks ≤ n → Q (none, ()) s →
    wpAny (model P w) A (forIn vs ((none, ()) : Option Bool × Unit) fun y _ => do
      if (!(← hashByValue n y)) = true then pure (ForInStep.done (some false, ())) else pure (ForInStep.yield (none, ()))) Q E s
  | [], _, _, _, _, _, _, x, _, _, q => by
    cases x
    exact wpAny_pure q
  | k :: ks, _, n, A, E, s, Q, x, l, d, q => by
    cases x with
    | cons x1 x2 =>
      simp only [NestedKey.depthAll] at d
      rw [List.forIn_cons]
      refine wpAny_bind (wpAny_bind (valHash k _ n A E s _ x1 (fun y hy => l y (by simp only [NestedKey.leavesAll, List.mem_append]; exact .inl hy)) (by omega) ?_))
      show wpAny _ _ (if (!true) = true then _ else _) _ _ s
      rw [if_neg (by decide)]
      exact wpAny_pure (valHashAll ks _ n A E s Q x2 (fun y hy => l y (by simp only [NestedKey.leavesAll, List.mem_append]; exact .inr hy)) (by omega) q)
end
end
end Nv

set_option maxRecDepth 100000
set_option maxHeartbeats 4000000
namespace Nv
open PySem PySem.Spec PyProof.Rows L2
/-- numbers and None alone within -/
def Pure (k : NestedKey) : Prop := ∀ x ∈ k.leaves, x = true
section
variable {P : Program} {w : World} {A : Around} {E : Value → Shared → Prop} {s : Shared}
theorem seenNot {k : NestedKey} {b : Addr} {Q : Bool → Shared → Prop} (x : NAt P w s.heap k b) : ∀ (ys : List Value), (∀ y ∈ ys, ∃ j c, y = Value.ref c ∧ NAt P w s.heap j c) → Q false s → wpAny (model P w) A (searchCouldBeSeen (.ref b) ys) Q E s := by
  intro ys all q
  unfold searchCouldBeSeen
  refine wpAny_bind (wpAny_forIn_list _ (fun rest r s2 => r.1 = none ∧ s2 = s ∧ ∀ y ∈ rest, ∃ j c, y = Value.ref c ∧ NAt P w s.heap j c) _ ?_ ?_ _ _ ⟨rfl, rfl, all⟩)
  · rintro y rest r s2 ⟨_, rfl, ok⟩
    have tail : ∀ z ∈ rest, ∃ j c, z = Value.ref c ∧ NAt P w s2.heap j c := fun z hz => ok z (List.mem_cons_of_mem _ hz)
    obtain ⟨j, c, rfl, y1⟩ := ok y List.mem_cons_self
    by_cases e : (b == c || (carriedByValue (.ref b) && carriedByValue (.ref c))) = true
    · exact wp_if_pos e (wpAny_pure ⟨rfl, rfl, tail⟩)
    · refine wp_if_neg e (wpAny_bind ((nestedKind P w).quiet x ?_))
      show wpAny _ _ (if (!true) = true then _ else _) _ _ s2
      rw [if_neg (by decide)]
      refine wpAny_bind ((nestedKind P w).quiet y1 ?_)
      show wpAny _ _ (if (!true) = true then _ else _) _ _ s2
      rw [if_neg (by decide)]
      refine wpAny_bind (notClass k _ 8 _ _ _ _ x.1 x.2 ?_)
      show wpAny _ _ (if false = true then _ else _) _ _ s2
      rw [if_neg Bool.false_ne_true]
      refine wpAny_bind (notClass j _ 8 _ _ _ _ y1.1 y1.2 ?_)
      show wpAny _ _ (if false = true then _ else _) _ _ s2
      rw [if_neg Bool.false_ne_true]
      exact wpAny_pure ⟨rfl, rfl, tail⟩
  · rintro ⟨r1, r2⟩ s2 ⟨h1, rfl, _⟩
    cases (show r1 = none from h1)
    exact wpAny_pure q
/-! ### the table of such a set -/
/-- what the set holds: addresses and keys, in the order of its rows -/
abbrev Els := List (Addr × NestedKey)
def hashOf (w : World) (p : Addr × NestedKey) : Int := p.2.hash w
def rowOfEl (w : World) (p : Addr × NestedKey) : Int × Value := (p.2.hash w, .ref p.1)
structure NTab (P : Program) (w : World) (h : Heap) (a : Addr) (L : Els) (es : Array (Int × Value)) (ep : Nat) (t : SetTable) : Prop where
  obj : ∃ o, h.get? a = some o ∧ o.ExactSet ∧ o.data = .set es ep t
  rows : es.toList = L.map (rowOfEl w)
  tab : TabOk t (L.map (hashOf w))
  nd : (L.map Prod.snd).Nodup
  els : ∀ p ∈ L, NAt P w h p.2 p.1
  pl : t.plain = true
  ld : w.params.followText "set-order" = true ∨ t.led = true
  gap : L.length * 5 < t.mask * 3
  few : L.length < 64
variable {a : Addr} {L : Els} {es : Array (Int × Value)} {ep : Nat} {t : SetTable}
theorem NTab.sz (R : NTab P w s.heap a L es ep t) : es.size = L.length := by
  rw [← Array.length_toList, R.rows, List.length_map]
theorem NTab.psz (R : NTab P w s.heap a L es ep t) : t.place.size = L.length := by
  have := R.tab.sz
  rwa [List.length_map] at this
theorem NTab.fit (R : NTab P w s.heap a L es ep t) : t.fits es.size = true := by
  have z1 := R.psz
  have z2 := R.gap
  unfold SetTable.fits SetTable.fill
  rw [R.tab.dm, R.sz, z1, Bool.and_eq_true]
  refine ⟨beq_self_eq_true _, decide_eq_true ?_⟩
  show L.length + 0 ≤ t.mask
  omega
theorem NTab.row (R : NTab P w s.heap a L es ep t) {i : Nat} {p : Addr × NestedKey} (e : L[i]? = some p) : es[i]? = some (rowOfEl w p) := by
  rw [← Array.getElem?_toList, R.rows, List.getElem?_map, e]
  rfl
theorem NTab.whole (R : NTab P w s.heap a L es ep t) : ¬ t.gaveWay = true := by
  unfold SetTable.gaveWay
  rw [mask_odd R.tab.mok]
  decide
theorem dummy_keeps (m : Nat) : ∀ (n : Nat) (p : SetTable.Probe), p.dummy = none → (nth m p n).dummy = none
  | 0, _, h => h
  | n + 1, p, h => dummy_keeps m n (adv m p) (by
      unfold adv
      split <;> exact h)
/-- the n-th probe of a key's way -/
def prb (w : World) (t : SetTable) (k : NestedKey) (n : Nat) : SetTable.Probe := nth t.mask (runAt t.mask (SetTable.bits (k.hash w) % (t.mask + 1)) (SetTable.bits (k.hash w))) n
theorem prb_add (t : SetTable) (k : NestedKey) (c q : Nat) : nth t.mask (prb w t k c) q = prb w t k (c + q) := (nth_add t.mask c _ q).symm
/-- a search for a key that may be there: from the c-th probe on; K is the first empty slot on the way -/
theorem seek (R : NTab P w s.heap a L es ep t) {x : Addr} {k : NestedKey} (kx : NAt P w s.heap k x) (room : A.units + 8 < cLine) {K : Nat} (far : K < 10 * SetTable.turns t.mask)
    (emp : (prb w t k K).j ∉ t.place.toList) (ful : ∀ c, c < K → (prb w t k c).j ∈ t.place.toList) {Q : SetFound → Shared → Prop}
    (yes : k ∈ L.map Prod.snd → Q (.there none) s) (no : k ∉ L.map Prod.snd → Q (.free (prb w t k K).j false) s) :
    ∀ (f c : Nat) (from_ : Option SetTable.Probe), from_.getD (t.probeStart (k.hash w)) = prb w t k c → c ≤ K → K - c < f →
      (∀ (i : Nat) p, L[i]? = some p → p.2 = k → ∃ d, c ≤ d ∧ d < K ∧ t.place.toList[i]? = some (prb w t k d).j) →
      wpAny (model P w) A (setSearchFrom a (.ref x) (k.hash w) true f from_) Q E s := by
  intro f
  induction f with
  | zero => intro c _ _ _ lt _; exact absurd lt (Nat.not_lt_zero _)
  | succ f ih =>
    intro c from_ at_ cK lt ahead
    obtain ⟨o, ho, hex, hd⟩ := R.obj
    rw [setSearchFrom_succ]
    refine wpAny_bind (wpAny_setState_of ho hd R.fit (wp_if_neg R.whole ?_))
    try refine wpAny_bind (wpAny_pure ?_)
    have slotAt : ∀ q, (nth t.mask (prb w t k c) q).j = (prb w t k (c + q)).j := fun q => congrArg SetTable.Probe.j (prb_add t k c q)
    have hashes : ∀ (i : Nat) p, L[i]? = some p → (fun i => (es[i]?.map (·.1)).getD 0) i = p.2.hash w := fun i p hp => by
      show (es[i]?.map (·.1)).getD 0 = _
      rw [R.row hp]
      rfl
    have told := go_spec t R.tab.ris R.tab.dm (fun i => (es[i]?.map (·.1)).getD 0) (k.hash w) (10 * SetTable.turns t.mask) (K - c) (prb w t k c) (dummy_keeps t.mask c _ rfl) (by omega)
      (fun q hq => by rw [slotAt]; exact ful (c + q) (by omega)) (by rw [slotAt, show c + (K - c) = K by omega]; exact emp)
    rcases told with ⟨q, i, hq, hi, hh, clear_, met⟩ | ⟨clear_, met⟩
    · -- one of the same hash
      rw [slotAt] at hi
      have met2 : t.probe (fun i => (es[i]?.map (·.1)).getD 0) (k.hash w) (from_.getD (t.probeStart (k.hash w))) = some (.candidate (prb w t k (c + q)).j i (prb w t k (c + (q + 1)))) := by
        rw [at_, ← slotAt, ← prb_add]
        exact met
      rw [met2]
      dsimp only
      have il : i < L.length := by
        have z := (List.getElem?_eq_some_iff.mp hi).1
        rw [Array.length_toList, R.psz] at z
        exact z
      obtain ⟨p, hp⟩ : ∃ p, L[i]? = some p := ⟨_, List.getElem?_eq_getElem il⟩
      have pm := List.mem_of_getElem? hp
      have live : t.slot (prb w t k (c + q)).j = .live i := slot_live R.tab.ris hi
      have on : wpAny (model P w) A (searchRest a (.ref x) (k.hash w) true f es t (prb w t k (c + q)).j i (prb w t k (c + (q + 1)))) Q E s := by
        unfold searchRest
        rw [R.row hp]
        refine wpAny_bind (wpAny_holding ((nestedKind P w).eqBool room (R.els p pm) kx ?_))
        refine wpAny_bind (wpAny_setState_of ho hd R.fit ?_)
        by_cases same : p.2 = k
        · exact wp_if_pos (by simp [same]) (wpAny_pure (yes (List.mem_map.mpr ⟨p, pm, same⟩)))
        · refine wp_if_neg (by simp [same]) ?_
          try refine wpAny_bind (wpAny_pure ?_)
          rw [sameMem]
          dsimp only
          simp only [if_true, live, R.row hp]
          refine wpAny_bind (wpAny_isSame_ref_self (wpAny_bind (wpAny_pure ?_)))
          simp only [if_true]
          refine wp_if_neg (by simp [same]) (ih (c + (q + 1)) _ rfl (by omega) (by omega) fun i0 p0 e0 k0 => ?_)
          obtain ⟨d, d1, d2, d3⟩ := ahead i0 p0 e0 k0
          refine ⟨d, ?_, d2, d3⟩
          apply Classical.byContradiction
          intro low
          by_cases eq : d = c + q
          · rw [eq] at d3
            have l2 := slot_live R.tab.ris d3
            rw [live] at l2
            injection l2 with l2
            rw [← l2, hp] at e0
            exact same (by rw [Option.some.inj e0]; exact k0)
          · refine clear_ (d - c) i0 (by omega) ?_ ((hashes i0 p0 e0).trans (by rw [k0]))
            rw [slotAt, show c + (d - c) = d by omega]
            exact d3
      by_cases hl : t.led = true
      · refine wp_if_neg (by simp [hl]) ?_
        try refine wpAny_bind (wpAny_pure ?_)
        exact on
      · refine wp_if_pos (by simp [hl]) (wpAny_bind (seenNot kx _ (fun y hy => ?_) (wp_if_neg (by decide) ?_)))
        · obtain ⟨e, he, rfl⟩ := List.mem_map.mp hy
          have he2 : e ∈ es.toList := by
            have z : e ∈ es ∧ e.1 = k.hash w := by simpa using he
            simpa using z.1
          rw [R.rows] at he2
          obtain ⟨p2, hp2, rfl⟩ := List.mem_map.mp he2
          exact ⟨p2.2, p2.1, rfl, R.els p2 hp2⟩
        · try refine wpAny_bind (wpAny_pure ?_)
          exact on
    · -- an empty slot
      have met2 : t.probe (fun i => (es[i]?.map (·.1)).getD 0) (k.hash w) (from_.getD (t.probeStart (k.hash w))) = some (.empty (prb w t k K).j none) := by
        have z : (prb w t k K).j = (nth t.mask (prb w t k c) (K - c)).j := by rw [slotAt, show c + (K - c) = K by omega]
        rw [at_, z]
        exact met
      rw [met2]
      refine wpAny_pure (no fun there => ?_)
      obtain ⟨p0, m0, k0⟩ := List.mem_map.mp there
      obtain ⟨i0, l0, e0⟩ := List.getElem_of_mem m0
      have e00 : L[i0]? = some p0 := by rw [List.getElem?_eq_getElem l0, e0]
      obtain ⟨d, d1, d2, d3⟩ := ahead i0 p0 e00 k0
      refine clear_ (d - c) i0 (by omega) ?_ ((hashes i0 p0 e00).trans (by rw [k0]))
      rw [slotAt, show c + (d - c) = d by omega]
      exact d3
/-- the search of an adding -/
theorem seekNew (R : NTab P w s.heap a L es ep t) {x : Addr} {k : NestedKey} (kx : NAt P w s.heap k x) (room : A.units + 8 < cLine) {Q : SetFound → Shared → Prop} (yes : k ∈ L.map Prod.snd → Q (.there none) s)
    (no : ∀ K, k ∉ L.map Prod.snd → way t.mask (k.hash w) K ∉ t.place.toList → (∀ c, c < K → way t.mask (k.hash w) c ∈ t.place.toList) → Q (.free (way t.mask (k.hash w) K) false) s) :
    wpAny (model P w) A (setSearch a (.ref x) (k.hash w) true) Q E s := by
  have gap := R.gap
  obtain ⟨K, far, emp, ful⟩ := R.tab.first (by rw [List.length_map]; omega) (k.hash w)
  have near : 10 * SetTable.turns t.mask < 100000 := by
    unfold SetTable.turns
    rcases R.tab.mok with z | z | z <;> omega
  refine seek R kx room far emp ful yes (fun z => no K z emp ful) 100000 0 none rfl (Nat.zero_le _) (by omega) fun i p e ke => ?_
  have hi : (L.map (hashOf w))[i]? = some (k.hash w) := by
    rw [List.getElem?_map, e, ← ke]
    rfl
  have il : i < t.place.toList.length := by
    rw [Array.length_toList, R.psz]
    exact (List.getElem?_eq_some_iff.mp e).1
  obtain ⟨c, cl, ce⟩ := R.tab.before emp hi (List.getElem?_eq_getElem il)
  exact ⟨c, Nat.zero_le _, cl, by rw [List.getElem?_eq_getElem il]; exact congrArg some ce.symm⟩
end
end Nv

set_option maxRecDepth 100000
set_option maxHeartbeats 4000000
namespace Nv
open PySem PySem.Spec PyProof.Rows L2
section
variable {P : Program} {w : World} {A : Around} {E : Value → Shared → Prop} {s : Shared} {a : Addr} {L : Els} {es : Array (Int × Value)} {ep : Nat} {t : SetTable}
theorem take_all {α : Type} (L : List α) : ∀ n, n ≤ L.length → (List.range n).filterMap (fun i => L[i]?) = L.take n
  | 0, _ => rfl
  | n + 1, h => by
    have e : L[n]? = some L[n] := List.getElem?_eq_getElem h
    rw [List.range_succ, List.filterMap_append, take_all L n (Nat.le_of_lt h), List.take_add_one, e, List.filterMap_cons_some e]
    rfl
/-- the rows in another order -/
theorem reorder (hr : es.toList = L.map (rowOfEl w)) {order : Array Nat} (hp : order.toList.Perm (List.range L.length)) :
    ∃ M : Els, (order.filterMap (es[·]?)).toList = M.map (rowOfEl w) ∧ M.Perm L ∧ M.map (hashOf w) = order.toList.map fun i => (es.map (·.1)).getD i 0 := by
  have at_ : ∀ i (h : i < L.length), es[i]? = some (rowOfEl w L[i]) := fun i h => by
    rw [← Array.getElem?_toList, hr, List.getElem?_map, List.getElem?_eq_getElem h]
    rfl
  have both : ∀ l : List Nat, (∀ i ∈ l, i < L.length) → l.filterMap (fun i => es[i]?) = (l.filterMap fun i => L[i]?).map (rowOfEl w) ∧ (l.filterMap fun i => L[i]?).map (hashOf w) = l.map fun i => (es.map (·.1)).getD i 0 := by
    intro l
    induction l with
    | nil => exact fun _ => ⟨rfl, rfl⟩
    | cons i l ih =>
      intro low
      have hi := low i List.mem_cons_self
      obtain ⟨h1, h2⟩ := ih fun j hj => low j (List.mem_cons_of_mem _ hj)
      have hash : (es.map (·.1)).getD i 0 = hashOf w L[i] := by
        have z : (es.map (·.1))[i]? = some (hashOf w L[i]) := by
          rw [Array.getElem?_map, at_ i hi]
          rfl
        simp [Array.getD_eq_getD_getElem?, z]
      rw [List.filterMap_cons_some (at_ i hi), List.filterMap_cons_some (List.getElem?_eq_getElem hi), List.map_cons, List.map_cons, List.map_cons, h1, h2, hash]
      exact ⟨rfl, rfl⟩
  obtain ⟨h1, h2⟩ := both order.toList fun i hi => List.mem_range.mp (hp.mem_iff.mp hi)
  refine ⟨_, by first | (rw [Array.toList_filterMap]; exact h1) | simpa using h1, ?_, h2⟩
  have z := hp.filterMap (fun i => L[i]?)
  rw [take_all L L.length (Nat.le_refl _), List.take_length] at z
  exact z
/-- the table laid anew, larger -/
theorem relaidN {o : Obj} (ho : s.heap.get? a = some o) (hex : o.ExactSet) (hd : o.data = .set es ep t) (hr : es.toList = L.map (rowOfEl w)) (psz : t.place.size = L.length) (hdm : t.dummies = #[]) (fl : L.length ≤ t.mask)
    (nd : (L.map Prod.snd).Nodup) (els : ∀ p ∈ L, NAt P w s.heap p.2 p.1) (pl : t.plain = true) (ld : w.params.followText "set-order" = true ∨ t.led = true) (few : L.length < 64) {wanted M : Nat}
    (big : SetTable.sizeAbove wanted = M + 1) (ok : MaskOk M) (gap : L.length * 5 < M * 3) {Q : Unit → Shared → Prop}
    (q : ∀ g L2 es2 ep2 t2, Heap.SameBut a s.heap g → NTab P w g a L2 es2 ep2 t2 → L2.Perm L → Q () { s with heap := g }) : wpAny (model P w) A (setRelay a wanted) Q E s := by
  have sz : es.size = L.length := by rw [← Array.length_toList, hr, List.length_map]
  have fit : t.fits es.size = true := by
    unfold SetTable.fits SetTable.fill
    rw [hdm, sz, psz, Bool.and_eq_true]
    refine ⟨beq_self_eq_true _, decide_eq_true ?_⟩
    show L.length + 0 ≤ t.mask
    omega
  have m128 : M + 1 ≤ 128 := by rcases ok with z | z | z <;> omega
  obtain ⟨t2, order, e, pm, T, em, el, epl, edm⟩ := relaid_ok t (hs := es.map (·.1)) (wanted := wanted) (by rw [big]; rfl) ok (by rw [Array.size_map, sz]; omega)
  rw [Array.size_map, sz] at pm
  obtain ⟨L2, r1, r2, r3⟩ := reorder hr pm
  rw [← r3] at T
  have sz2 : (order.filterMap (es[·]?)).size = es.size := by rw [← Array.length_toList, r1, List.length_map, r2.length_eq, sz]
  rw [setRelay_eq]
  refine wpAny_bind (wpAny_setState_of ho hd fit (wp_if_neg (by rw [sizeLine_eq, big]; omega) ?_))
  try refine wpAny_bind (wpAny_pure ?_)
  rw [e]
  refine wpAny_bind (wp_if_neg (by rw [sz2]; simp) ?_)
  try refine wpAny_bind (wpAny_pure ?_)
  refine wpAny_pure (wpAny_storeSet_of ho hd ?_ (by rw [sz2, sz, sizeLine_eq]; omega))
  have sb : Heap.SameBut a s.heap (s.heap.update a (Obj.putSet (order.filterMap (es[·]?)) t2)) := Heap.SameBut.update ..
  exact q _ L2 _ (ep + 1) t2 sb ⟨⟨_, store_at ho hd, ⟨hex.1, hex.2.1, hex.2.2⟩, rfl⟩, r1, T, (r2.map Prod.snd).nodup_iff.mpr nd, fun p hp => (els p (r2.mem_iff.mp hp)).beside ho hd sb, by rw [epl]; exact pl, by rw [el]; exact ld, by rw [r2.length_eq, em]; exact gap, by rw [r2.length_eq]; exact few⟩ r2
theorem wide32 : SetTable.sizeAbove (SetTable.grown 5) = 31 + 1 := by decide +kernel
theorem wide128 : SetTable.sizeAbove (SetTable.grown 19) = 127 + 1 := by decide +kernel
/-- a key is put in, unless it is there -/
theorem putIn (R : NTab P w s.heap a L es ep t) {x : Addr} {k : NestedKey} (kx : NAt P w s.heap k x) (pk : Pure k) (room : A.units + 8 < cLine) (few : L.length + 1 < 64) {Q : Bool → Shared → Prop}
    (q : ∀ b g L2 es2 ep2 t2, Heap.SameBut a s.heap g → NTab P w g a L2 es2 ep2 t2 → (k ∈ L.map Prod.snd ∧ L2 = L ∨ k ∉ L.map Prod.snd ∧ L2.Perm ((x, k) :: L)) → Q b { s with heap := g }) :
    wpAny (model P w) A (setAddHashed a (.ref x) (k.hash w)) Q E s := by
  obtain ⟨o, ho, hex, hd⟩ := R.obj
  unfold setAddHashed
  refine wpAny_holding ?_
  rw [show (100000 : Nat) = 99999 + 1 from rfl, setAddHashedIn_succ]
  refine wpAny_bind (wpAny_setState_of ho hd R.fit (wp_if_neg (by simp [byScan, Value.scannable]) ?_))
  try refine wpAny_bind (wpAny_pure ?_)
  refine wpAny_bind (seekNew R kx room (fun there => wpAny_pure (q false s.heap L es ep t (Heap.SameBut.refl a s.heap) R (.inl ⟨there, rfl⟩))) fun K new emp ful => ?_)
  refine wpAny_bind (wpAny_setState_of ho hd R.fit ?_)
  dsimp only
  obtain ⟨b1, b2, b3, b4, b5, b6, b7, b8, b9⟩ := R.tab.put emp ful
  rw [List.length_map] at b9
  generalize hput : t.put (way t.mask (k.hash w) K) = pt at b1 b3 b4 b5 b6 b7 b8 b9 ⊢
  obtain ⟨t1, p⟩ := pt
  dsimp only at b1 b3 b4 b5 b6 b7 b8 b9 ⊢
  subst b1
  have pl1 : t1.plain = true := b6.trans R.pl
  generalize SetTable.below t.place (way t.mask (k.hash w) K) = p at b2 b3 ⊢
  refine wp_if_pos pl1 (wpAny_bind (valHash k _ 8 _ _ _ _ kx.1 pk kx.2 ?_))
  simp only [if_true]
  have rows1 : (SetTable.insertAt es p (k.hash w, Value.ref x)).toList = (L.take p ++ (x, k) :: L.drop p).map (rowOfEl w) := by
    rw [SetTable.toList_insertAt, R.rows, List.map_append, List.map_cons, List.map_take, List.map_drop]
    rfl
  have pm : (L.take p ++ (x, k) :: L.drop p).Perm ((x, k) :: L) := put_perm L p (x, k)
  have tab1 : TabOk t1 ((L.take p ++ (x, k) :: L.drop p).map (hashOf w)) := by
    rw [List.map_append, List.map_cons, List.map_take, List.map_drop]
    exact b3
  generalize L.take p ++ (x, k) :: L.drop p = L1 at rows1 pm tab1
  have ln : L1.length = L.length + 1 := pm.length_eq
  generalize SetTable.insertAt es p (k.hash w, Value.ref x) = es1 at rows1 ⊢
  have sz1 : es1.size = L1.length := by rw [← Array.length_toList, rows1, List.length_map]
  have nd1 : (L1.map Prod.snd).Nodup := (pm.map Prod.snd).nodup_iff.mpr (List.nodup_cons.mpr ⟨new, R.nd⟩)
  refine wpAny_bind (wpAny_storeSet_of ho hd ?_ (by rw [sz1, ln, sizeLine_eq]; omega))
  have sb : Heap.SameBut a s.heap (s.heap.update a (Obj.putSet es1 t1)) := Heap.SameBut.update ..
  have ho1 := store_at (es' := es1) (t' := t1) ho hd
  generalize s.heap.update a (Obj.putSet es1 t1) = g1 at sb ho1 ⊢
  have els1 : ∀ p ∈ L1, NAt P w g1 p.2 p.1 := fun p hp => by
    rcases List.mem_cons.mp (pm.mem_iff.mp hp) with z | z
    · rw [z]
      exact kx.beside ho hd sb
    · exact (R.els p z).beside ho hd sb
  have ld1 : w.params.followText "set-order" = true ∨ t1.led = true := by
    rw [b5]
    exact R.ld
  have psz1 : t1.place.size = L1.length := by
    have z := tab1.sz
    rwa [List.length_map] at z
  have gap := R.gap
  by_cases full : t1.tooFull = true
  · have crowd : t1.mask * 3 ≤ (L.length + 1) * 5 := by
      have z := full
      unfold SetTable.tooFull at z
      rw [decide_eq_true_eq, b9] at z
      exact z
    rw [R.sz]
    have wide : ∃ M, SetTable.sizeAbove (SetTable.grown (L.length + 1)) = M + 1 ∧ MaskOk M ∧ (L.length + 1) * 5 < M * 3 ∧ L.length + 1 ≤ t.mask := by
      rcases R.tab.mok with z | z | z
      · refine ⟨31, ?_, .inr (.inl rfl), by omega, by omega⟩
        rw [show L.length + 1 = 5 by omega]
        exact wide32
      · refine ⟨127, ?_, .inr (.inr rfl), by omega, by omega⟩
        rw [show L.length + 1 = 19 by omega]
        exact wide128
      · omega
    obtain ⟨M, w1, w2, w3, w4⟩ := wide
    have go : wpAny (model P w) A (setRelay a (SetTable.grown (L.length + 1))) (fun _ s2 => wpAny (model P w) A (pure true) Q E s2) E { s with heap := g1 } :=
      relaidN (s := { s with heap := g1 }) ho1 ⟨hex.1, hex.2.1, hex.2.2⟩ rfl rows1 psz1 tab1.dm (by rw [ln, b4]; exact w4) nd1 els1 pl1 ld1 (by rw [ln]; exact few) w1 w2 (by rw [ln]; exact w3)
        fun g2 L2 es2 ep2 t2 sb2 R2 pm2 => wpAny_pure (q true g2 L2 es2 ep2 t2 (sb.trans sb2) R2 (.inr ⟨new, pm2.trans pm⟩))
    first
      | exact wpAny_bind (wp_if_pos (by simp [full]) go)
      | exact wp_if_pos (by simp [full]) (wpAny_bind go)
  · have calm : ¬ t1.mask * 3 ≤ (L.length + 1) * 5 := fun z => full (by
      unfold SetTable.tooFull
      rw [decide_eq_true_eq, b9]
      exact z)
    have fin : wpAny (model P w) A (pure true) Q E { s with heap := g1 } :=
      wpAny_pure (q true g1 L1 es1 (ep + 1) t1 sb ⟨⟨_, ho1, ⟨hex.1, hex.2.1, hex.2.2⟩, rfl⟩, rows1, tab1, nd1, els1, pl1, ld1, by rw [ln]; omega, by rw [ln]; exact few⟩ (.inr ⟨new, pm⟩))
    first
      | exact wp_if_neg (by simp [full]) fin
      | exact wpAny_bind (wp_if_neg (by simp [full]) (wpAny_pure fin))
end
end Nv

set_option maxRecDepth 100000
set_option maxHeartbeats 4000000
namespace Nv
open PySem PySem.Spec PyProof.Rows L2
/-- what a set has of the first i of some keys -/
structure Has (ks : Els) (i : Nat) (L : Els) : Prop where
  from_ : ∀ p ∈ L, p ∈ ks.take i
  every : ∀ p ∈ ks.take i, p.2 ∈ L.map Prod.snd
  few : L.length ≤ i
theorem Has.next {ks L M : Els} {i : Nat} {p : Addr × NestedKey} (g : Has ks i L) (e : ks[i]? = some p) (c : p.2 ∈ L.map Prod.snd ∧ M = L ∨ p.2 ∉ L.map Prod.snd ∧ M.Perm (p :: L)) : Has ks (i + 1) M := by
  have tk : ks.take (i + 1) = ks.take i ++ [p] := by
    rw [List.take_add_one, e]
    rfl
  rcases c with ⟨there, rfl⟩ | ⟨_, pm⟩
  · refine ⟨fun r hr => by rw [tk]; exact List.mem_append_left _ (g.from_ r hr), fun r hr => ?_, by have := g.few; omega⟩
    rw [tk] at hr
    rcases List.mem_append.mp hr with z | z
    · exact g.every r z
    · rw [List.mem_singleton.mp z]
      exact there
  · refine ⟨fun r hr => ?_, fun r hr => ?_, by have := g.few; rw [pm.length_eq, List.length_cons]; omega⟩
    · rw [tk]
      rcases List.mem_cons.mp (pm.mem_iff.mp hr) with z | z
      · rw [z]
        exact List.mem_append_right _ (List.mem_singleton.mpr rfl)
      · exact List.mem_append_left _ (g.from_ r z)
    · rw [(pm.map Prod.snd).mem_iff, List.map_cons]
      rw [tk] at hr
      rcases List.mem_append.mp hr with z | z
      · exact List.mem_cons_of_mem _ (g.every r z)
      · rw [List.mem_singleton.mp z]
        exact List.mem_cons_self
section
variable {P : Program} {w : World} {A : Around} {E : Value → Shared → Prop} {s : Shared}
theorem NTab.later {h g : Heap} {a : Addr} {L : Els} {es : Array (Int × Value)} {ep : Nat} {t : SetTable} (R : NTab P w h a L es ep t) (k1 : ∀ o, h.get? a = some o → g.get? a = some o) (k2 : ∀ p ∈ L, NAt P w g p.2 p.1) : NTab P w g a L es ep t := by
  obtain ⟨o, ho, r⟩ := R.obj
  exact { R with obj := ⟨o, k1 o ho, r⟩, els := k2 }
/-- an empty set -/
theorem emptyN {h : Heap} {a : Addr} (g : h.get? a = some (freshSet w)) : NTab P w h a [] #[] 0 (.fresh 0 0 (!w.params.followText "set-order")) where
  obj := ⟨_, g, ⟨rfl, rfl, rfl⟩, rfl⟩
  rows := rfl
  tab := ⟨List.Pairwise.nil, rfl, rfl, .inl rfl, (fun x hx => by cases hx), (fun i h j e => by simp at e)⟩
  nd := List.nodup_nil
  els := fun p hp => by cases hp
  pl := rfl
  ld := by
    show _ ∨ (!w.params.followText "set-order") = true
    cases w.params.followText "set-order" <;> simp
  gap := by show 0 * 5 < 7 * 3; decide
  few := by show 0 < 64; decide
/-- the loop that puts the items of an iterator in -/
theorem fill {I : Addr} {fp wr : List Addr} {G : Array GenState → Array GenState → Prop} {n : Nat} {Pv : Nat → Value → Prop} {St : Nat → Shared → Prop} {R : Result → Shared → Prop} (W : WalksS P w A.in1 I fp wr G n Pv St) (c : Addr) (apart : c ∉ fp)
    (ks : Els) (hn : n = ks.length) (few : ks.length < 64) (vals : ∀ i v, Pv i v → ∃ p, ks[i]? = some p ∧ v = .ref p.1) (h0 : Heap) (old : ∀ p ∈ ks, NAt P w h0 p.2 p.1 ∧ Pure p.2) (fresh : h0.get? c = none) (freshW : ∀ b ∈ wr, h0.get? b = none) (room : A.in1.units + 8 < cLine) :
    ∀ (m i : Nat) (s : Shared), n - i = m → i ≤ n → St i s → (∀ b o, h0.get? b = some o → s.heap.get? b = some o) → (∃ L es ep t, NTab P w s.heap c L es ep t ∧ Has ks i L) →
      (∀ s2 L es ep t, Moved (c :: wr) G s s2 → NTab P w s2.heap c L es ep t → Has ks n L → (∀ b o, h0.get? b = some o → s2.heap.get? b = some o) → R (.ok (.ret .none)) s2) →
      codeAny (model P w) A (.builtin "set.update.loop" ⟨[.ref c, .ref I], []⟩) R s := by
  have offW : c ∉ wr := fun z => apart (W.sub _ z)
  have inc : ∀ b ∈ wr, b ∈ c :: wr := fun b z => List.mem_cons_of_mem _ z
  have stay : ∀ {s s2 : Shared}, Moved wr G s s2 → (∀ b o, h0.get? b = some o → s.heap.get? b = some o) → ∀ b o, h0.get? b = some o → s2.heap.get? b = some o := fun mv kp b o e =>
    mv.heap b o (fun z => by rw [freshW b z] at e; cases e) (kp b o e)
  have here : ∀ {s2 : Shared} {L : Els} {i : Nat}, Has ks i L → (∀ b o, h0.get? b = some o → s2.heap.get? b = some o) → ∀ p ∈ L, NAt P w s2.heap p.2 p.1 := fun g kp p hp =>
    (old p (List.mem_of_mem_take (g.from_ p hp))).1.later kp
  intro m
  induction m with
  | zero =>
    intro i s hm hi st kp ⟨L, es, ep, t, T, g⟩ done_
    obtain rfl : i = n := by omega
    refine codeAny_builtin F.entry_set_update_loop ?_
    rw [Around.under_plainId F.plain_set_update_loop _]
    show wpAny _ A.in1 (pyNext (.ref I) >>= _) _ _ s
    refine wpAny_bind (W.done s _ _ st fun s2 mv => ?_)
    have kp2 := stay mv kp
    exact wpAny_pure (done_ s2 L es ep t (mv.mono inc) (T.later (fun o e => mv.heap c o offW e) (here g kp2)) g kp2)
  | succ m ih =>
    intro i s hm hi st kp ⟨L, es, ep, t, T, g⟩ done_
    refine codeAny_builtin F.entry_set_update_loop ?_
    rw [Around.under_plainId F.plain_set_update_loop _]
    show wpAny _ A.in1 (pyNext (.ref I) >>= _) _ _ s
    refine wpAny_bind (W.item i s _ _ (by omega) st fun v s2 pv st2 mv => ?_)
    obtain ⟨p, ep_, rfl⟩ := vals i v pv
    have kp2 := stay mv kp
    have pm := List.mem_of_getElem? ep_
    have T2 : NTab P w s2.heap c L es ep t := T.later (fun o e => mv.heap c o offW e) (here g kp2)
    have x2 : NAt P w s2.heap p.2 p.1 := (old p pm).1.later kp2
    show wpAny _ A.in1 (holding [Value.ref p.1] (setAdd c (.ref p.1)) >>= _) _ _ s2
    refine wpAny_bind (wpAny_holding ?_)
    unfold setAdd
    refine wpAny_holding (wpAny_bind ((nestedKind P w).pyHash room x2 ?_))
    refine putIn (s := { s2 with toks := s2.toks + p.2.draws }) T2 x2 (old p pm).2 room (by have := g.few; omega) fun b g2 L2 es2 ep2 t2 sb T3 how => ?_
    have kp3 : ∀ b o, h0.get? b = some o → g2.get? b = some o := fun b o e => (sb.2 b (fun z => by rw [z, fresh] at e; cases e)).trans (kp2 b o e)
    have near : ∀ b o, b ≠ c → s2.heap.get? b = some o → g2.get? b = some o := fun b o nb e => by rw [sb.2 b nb]; exact e
    refine wpAny_pure ⟨plainId_quiet F.plain_set_update_loop _, ih (i + 1) _ (by omega) (by omega) (W.frame _ s2 _ _ st2 (Nat.le_add_right _ _) fun b hb o e => near b o (fun z => apart (z ▸ hb)) e) kp3 ⟨L2, es2, ep2, t2, T3, g.next ep_ how⟩ fun s3 L3 es3 ep3 t3 mv3 T4 g4 kp4 => ?_⟩
    exact done_ s3 L3 es3 ep3 t3 (Moved.trans W.gtrans ((mv.mono inc).then_heap (Nat.le_add_right _ _) fun b o hb e => near b o (fun z => hb (z ▸ List.mem_cons_self)) e) mv3) T4 g4 kp4
end
end Nv

set_option maxRecDepth 100000
set_option maxHeartbeats 4000000
namespace Nv
open PySem PySem.Spec PyProof.Rows L2
section
variable {P : Program} {w : World} {A : Around} {E : Value → Shared → Prop} {s : Shared}
set_option maxHeartbeats 4000000 in
/-- set(l), l a list of such tuples -/
theorem set_of_tuples {l : Addr} {its : Array Value} (ks : Els) {Q : Value → Shared → Prop} (cool : A.handled = none) (isl : s.heap.IsList l its) (refs : its.toList = ks.map fun p => Value.ref p.1) (old : ∀ p ∈ ks, NAt P w s.heap p.2 p.1 ∧ Pure p.2) (few : ks.length < 64) (room : A.units + 11 < cLine)
    (q : ∀ (h' : Heap) (tk : Nat) (L : Els) (es : Array (Int × Value)) (ep : Nat) (t : SetTable), NTab P w h' s.heap.objs.size L es ep t → Has ks ks.length L → (∀ b o, s.heap.get? b = some o → h'.get? b = some o) → Q (.ref s.heap.objs.size) { s with heap := h', toks := tk }) :
    wpAny (model P w) A (call (.type "set") [.ref l]) Q E s := by
  have cnt : its.size = ks.length := by rw [← Array.length_toList, refs, List.length_map]
  obtain ⟨c, tl, hmro⟩ := PySem.F.called_set.mro
  have hmade := PySem.F.called_set.made
  have hsub := PySem.F.called_set.sub
  refine wpAny_call (codeAny_of_tree ?_)
  show wpAny _ _ (callAny (.type "set") _) _ _ _
  refine wpAny_pure ⟨Code.quiet_builtin _ (by decide +kernel), codeAny_builtin PySem.F.entry_type_call ?_⟩
  rw [Around.under_plain (weight_type_call_type "set" [.ref l] []) rfl]
  have e1 := PySem.F.called_set.notType
  have e2 := PySem.F.called_set.canCreate
  have e3 := PySem.F.typeCall_set_1 (.ref l)
  repeat (any_goals (first | assumption | wp_step))
  refine codeAny_mono (code_set_led1 (.ref l) (E := E) (Q₁ := fun obj t1 => obj = .ref s.heap.objs.size ∧ t1 = { s with heap := s.heap.push (freshSet w) }) ⟨rfl, rfl⟩) fun r t1 hr => ?_
  cases r with
  | error e => exact hr
  | ok fl =>
    cases fl with
    | ret obj =>
      obtain ⟨rfl, rfl⟩ := hr
      have gS : (s.heap.push (freshSet w)).get? s.heap.objs.size = some (freshSet w) := Heap.get?_push_size _ rfl
      have tS : Shared.TypeIs { s with heap := s.heap.push (freshSet w) } (.ref s.heap.objs.size) "set" := ⟨_, gS, rfl⟩
      have e4 := PySem.F.called_set.init.lookup
      have e5 := PySem.F.called_set.init.bind (.ref s.heap.objs.size)
      repeat (any_goals (first | assumption | wp_step))
      refine codeAny_mono (codeAny_call_builtin (R := wants (fun r t2 => r = .none ∧ ∃ h' tk L es ep t, t2 = { s with heap := h', toks := tk } ∧ NTab P w h' s.heap.objs.size L es ep t ∧ Has ks ks.length L ∧
          (∀ b o, s.heap.get? b = some o → h'.get? b = some o)) E) PySem.F.called_set.init.plain PySem.F.entry_set_init (check_set_init_1 tS ?_)) fun r2 t2 hr2 => ?_
      · obtain ⟨ol, gl, cl, nl, dl⟩ := isl
        obtain ⟨ocl, odi, oda, osl⟩ := ol
        simp only at cl dl
        subst cl; subst dl
        have gl' : (s.heap.push (freshSet w)).get? l = some { cls := .type "list", dict := odi, data := .seq its nl, slots := osl } := Heap.get?_push_of_some _ gl
        have d1 := PySem.F.sub_list_set
        have d2 := PySem.F.sub_list_frozenset
        have d3 : (Value.type "list" == Value.type "dict") = false := by decide
        have il : (s.heap.push (freshSet w)).IsList l its := ⟨_, gl', rfl, nl, rfl⟩
        unfold Builtin.«set.__init__» noKeywords Builtin.Frozenset.updateFrom
        generalize hPI : pyIter = PI
        wp_walk
        subst hPI
        refine wpAny_pyIter_list il ?_
        refine wpAny_bind (wpAny_runValue ?_)
        have ll : l < s.heap.objs.size := Heap.lt_size gl
        have cool3 : A.in1.in1.in1.handled = none := by simp [cool]
        have nI : l ≠ (s.heap.push (freshSet w)).objs.size := by
          rw [Heap.size_push]; exact Nat.ne_of_lt (Nat.lt_succ_of_lt ll)
        have nS : s.heap.objs.size ∉ [(s.heap.push (freshSet w)).objs.size, l] := by
          rw [Heap.size_push]; simp only [List.mem_cons, List.mem_singleton, List.not_mem_nil, or_false, not_or]
          exact ⟨Nat.ne_of_lt (Nat.lt_succ_self _), Nat.ne_of_gt ll⟩
        have vals : ∀ (i : Nat) (v : Value), its[i]? = some v → ∃ p, ks[i]? = some p ∧ v = .ref p.1 := fun i v hv => by
          have z : its.toList[i]? = some v := by rw [Array.getElem?_toList]; exact hv
          rw [refs, List.getElem?_map] at z
          cases e : ks[i]? with
          | none => rw [e] at z; cases z
          | some p => rw [e] at z; exact ⟨p, rfl, (Option.some.inj z).symm⟩
        have free : ∀ b, s.heap.objs.size ≤ b → s.heap.get? b = none := fun b hb => by
          cases e : s.heap.get? b with
          | none => rfl
          | some o => exact absurd (Nat.lt_of_lt_of_le (Heap.lt_size e) hb) (Nat.lt_irrefl _)
        refine fill ((Walks.list cool3 _ l nI its).toS) s.heap.objs.size nS ks cnt few vals s.heap old (free _ (Nat.le_refl _)) (fun b hb => free b (by
            rw [List.mem_singleton.mp hb, Heap.size_push]
            exact Nat.le_succ _)) (by simp only [Around.in1_units]; omega) (its.size - 0) 0 _ (by omega) (Nat.zero_le _)
          ⟨⟨_, Heap.get?_push_size _ rfl, rfl, rfl⟩, (il.push _)⟩ (fun b o e => Heap.get?_push_of_some _ (Heap.get?_push_of_some _ e)) ?hA ?hB
        case hA =>
          exact ⟨[], #[], 0, _, emptyN (Heap.get?_push_of_some _ gS), ⟨(fun p hp => by cases hp), (fun p hp => by simp at hp), Nat.le_refl 0⟩⟩
        case hB =>
          intro t3 L3 es3 ep3 tb3 mv T3 g3' kp3
          obtain ⟨h3, g3, d3', tk3, os3⟩ := t3
          have eg : g3 = s.gens := mv.gens
          have ed : d3' = s.drawn := mv.drawn
          have eo : os3 = s.os := mv.os
          subst eg; subst ed; subst eo
          show wpAny _ _ _ _ _ _
          refine wpAny_pure ?_
          show wpAny _ _ (ret Value.none) _ _ _
          rw [cnt] at g3'
          exact wpAny_pure ⟨rfl, h3, tk3, L3, es3, ep3, tb3, rfl, T3, g3', kp3⟩
      · cases r2 with
        | error e => exact hr2
        | ok fl2 =>
          cases fl2 with
          | ret r =>
            obtain ⟨rfl, h3, tk3, L3, es3, ep3, tb3, rfl, T3, g3', kp⟩ := hr2
            repeat (any_goals (first | assumption | wp_step))
            exact q _ _ _ _ _ _ T3 g3' kp
          | _ => exact hr2.elim
    | _ => exact hr.elim
end
end Nv

set_option maxRecDepth 100000
set_option maxHeartbeats 4000000
namespace Nv
open PySem PySem.Spec PyProof.Rows L2
mutual
theorem keyOf_reads {h : Heap} : ∀ (k : NestedKey) (v : Value) (as : List Addr), Reads h v k.data as → NestedIs h k v
  | .none, _, _, r => by cases r; exact .none
  | .num i, _, _, r => by cases r; exact .int _ _
  | .text x, _, _, r => by cases r; exact .text _ _
  | .tup ks, _, _, r => by
    cases r with
    | tuple g c d all => exact .tup g c d (keysOf_reads ks _ _ all)
theorem keysOf_reads {h : Heap} : ∀ (ks : List NestedKey) (vs : List Value) (as : List Addr), ReadsAll h vs (NestedKey.datas ks) as → NestedAll h ks vs
  | [], _, _, r => by cases r; exact .nil
  | k :: ks, _, _, r => by
    cases r with
    | cons r1 r2 => exact .cons (keyOf_reads k _ _ r1) (keysOf_reads ks _ _ r2)
end
/-- in the layer: at p stands the tuple that is k -/
structure TupK (K : PySem.W.Frag) (H : Hp) (p : Addr) (k : NestedKey) : Prop where
  dp : Dp K H (.ref p) k.data
  dep : k.depth ≤ 8
section
variable {X : Cx} {pins : List (Addr × Obj)} {σ : L2.St} {H : Hp} {s : Shared}
theorem TupK.reads {p : Addr} {k : NestedKey} (I : Inv X pins σ H s) (t : TupK X.K H p k) : ∃ as, Reads s.heap (.ref p) k.data as := Dp.reads I _ _ _ t.dp rfl
theorem TupK.at_ {p : Addr} {k : NestedKey} (I : Inv X pins σ H s) (t : TupK X.K H p k) : NAt X.prog X.w s.heap k p := by
  obtain ⟨as, r⟩ := t.reads I
  exact ⟨keyOf_reads k _ _ r, t.dep⟩
end
/-- a set of such tuples, the tuples themselves apart -/
def SetN (P : Program) (w : World) (a : Addr) (L : Els) : HO := .ext fun h => ∃ (es : Array (Int × Value)) (ep : Nat) (t : SetTable), (∃ o, h.get? a = some o ∧ o.ExactSet ∧ o.data = .set es ep t) ∧ es.toList = L.map (rowOfEl w) ∧ TabOk t (L.map (hashOf w)) ∧ (L.map Prod.snd).Nodup ∧ t.plain = true ∧
  (w.params.followText "set-order" = true ∨ t.led = true) ∧ L.length * 5 < t.mask * 3 ∧ L.length < 64
theorem setN_new {P : Program} {w : World} {H : Hp} {h : Heap} {a : Addr} {L : Els} {es : Array (Int × Value)} {ep : Nat} {t : SetTable} (R : NTab P w h a L es ep t) : ObjOk P w H h a (SetN P w a L) := by
  have ⟨o, ho, r⟩ := R.obj
  refine ⟨⟨es, ep, t, R.obj, R.rows, R.tab, R.nd, R.pl, R.ld, R.gap, R.few⟩, ⟨o, ho⟩, fun h1 h2 p k => ?_⟩
  obtain ⟨es2, ep2, t2, ⟨o2, g2, r2⟩, q2⟩ := p
  exact ⟨es2, ep2, t2, ⟨o2, k o2 g2, r2⟩, q2⟩
section
variable {X : Cx}
theorem setN_tab {pins : List (Addr × Obj)} {σ : L2.St} {H : Hp} {s : Shared} {a : Addr} {L : Els} (I : Inv X pins σ H s) (e : H a = some (SetN X.prog X.w a L)) (els : ∀ p ∈ L, TupK X.K H p.1 p.2) : ∃ es ep t, NTab X.prog X.w s.heap a L es ep t := by
  obtain ⟨es, ep, t, h1, h2, h3, h4, h5, h6, h7, h8⟩ := (I.hok a _ e).1
  exact ⟨es, ep, t, h1, h2, h3, h4, fun p hp => (els p hp).at_ I, h5, h6, h7, h8⟩
theorem refsOf : ∀ {ks : Els} {us : List Value}, Vals (ks.map fun p => V.ref p.1) us → us = ks.map fun p => Value.ref p.1
  | [], _, .nil => rfl
  | p :: ks, _, .cons r t => by
    cases r
    rw [refsOf t, List.map_cons]
theorem valsOf : ∀ ks : Els, Vals (ks.map fun p => V.ref p.1) (ks.map fun p => Value.ref p.1)
  | [] => .nil
  | p :: ks => .cons rfl (valsOf ks)
/-- set(l) -/
def rSetN (K : PySem.W.Frag) (P : Program) (w : World) : List V → Hp → VK → Prop := fun xs H Q => ∃ (l : Addr) (ks : Els), xs = [.ref l] ∧ SqL K H l (ks.map fun p => V.ref p.1) ∧ (∀ p ∈ ks, TupK K H p.1 p.2 ∧ Pure p.2) ∧ ks.length < 64 ∧
  ∀ (a : Addr) (L : Els) (H' : Hp), H a = none → (∀ p ∈ L, p ∈ ks) → (∀ p ∈ ks, p.2 ∈ L.map Prod.snd) → (L.map Prod.snd).Nodup → L.length ≤ ks.length → H' a = some (SetN P w a L) → Same H H' → Q (.ref a) H'
theorem cr_setN (hc : X.calm = true) (hu : X.A.units + 64 < cLine) : CallR X (.type "set") (rSetN X.K X.prog X.w) := by
  intro pins s σ H xs us Q I r h
  obtain ⟨l, ks, rfl, hl, hk, few, q⟩ := h
  obtain ⟨u, rfl, ru⟩ := vals1 r
  cases (show u = Value.ref l from ru)
  obtain ⟨its, rv, pl, _⟩ := I.list hl
  have fr : H s.heap.objs.size = none := I.hok.fresh (Nat.le_refl _)
  refine set_of_tuples (P := X.prog) (w := X.w) ks (I.ok.hd hc) pl.isList (by simpa using refsOf rv) (fun p hp => ⟨(hk p hp).1.at_ I, (hk p hp).2⟩) few (by omega) fun h' tk L es ep t R g kp => ?_
  refine ⟨.ref s.heap.objs.size, _, I.laid (t' := tk) kp (Nat.le_refl _) (setN_new R), rfl, q _ L _ fr (fun p hp => List.mem_of_mem_take (g.from_ p hp)) (fun p hp => g.every p (by rw [List.take_length]; exact hp)) R.nd g.few upd_same (Same.neu fr)⟩
/-- len(s) -/
def rLenN (P : Program) (w : World) : List V → Hp → VK → Prop := fun xs H Q => ∃ (a : Addr) (L : Els), xs = [.ref a] ∧ H a = some (SetN P w a L) ∧ Q (.int ((L.length : Nat) : Int)) H
theorem cr_lenN : CallR X (.builtin "len") (rLenN X.prog X.w) := by
  intro pins s σ H xs us Q I r h
  obtain ⟨a, L, rfl, ha, q⟩ := h
  obtain ⟨u, rfl, ru⟩ := vals1 r
  cases (show u = Value.ref a from ru)
  obtain ⟨es, ep, t, ⟨o, ho, ex, hd⟩, h2, h3, h4, h5, h6, h7, h8⟩ := (I.hok a _ ha).1
  have sz : es.size = L.length := by rw [← Array.length_toList, h2, List.length_map]
  have psz := h3.sz
  rw [List.length_map] at psz
  have fit : t.fits es.size = true := by
    unfold SetTable.fits SetTable.fill
    rw [h3.dm, sz, psz, Bool.and_eq_true]
    refine ⟨beq_self_eq_true _, decide_eq_true ?_⟩
    show L.length + 0 ≤ t.mask
    omega
  exact call_len_set ho ex hd fit (by omega) ⟨.int ((L.length : Nat) : Int), H, I.tok _, ⟨_, by rw [sz]⟩, q⟩
end
/-! ### sorted -/
/-- by data: q does not stand below p -/
def upw (p q : PyData) : Bool := !PySem.W.dataLt q p
def Srt (ds : List PyData) : Prop := ds.Pairwise fun p q => upw p q = true
theorem srt_merge {β : Type} (enc : β → PyData) (l : List β) : ((l.mergeSort (PySem.W.dataLe false enc)).map enc).Pairwise (fun p q => upw p q = true) := by
  rw [List.pairwise_map]
  have T := PySem.W.sortLe_total (listOrd itemOrd) false fun b => PySem.W.keyToks (enc b)
  exact List.pairwise_mergeSort (le := PySem.W.dataLe false enc) T.trans (fun a b => by rw [Bool.or_eq_true]; exact T.total a b) l
end Nv

set_option maxRecDepth 100000
set_option maxHeartbeats 4000000
namespace Nv
open PySem PySem.Spec PyProof.Rows L2
mutual
theorem readsN {h : Heap} : ∀ (k : NestedKey) (v : Value) (as : List Addr), Reads h v k.data as → as = []
  | .none, _, _, r => by cases r; rfl
  | .num i, _, _, r => by cases r; rfl
  | .text x, _, _, r => by cases r; rfl
  | .tup ks, _, _, r => by
    cases r with
    | tuple g c d all => exact readsNs ks _ _ all
theorem readsNs {h : Heap} : ∀ (ks : List NestedKey) (vs : List Value) (as : List Addr), ReadsAll h vs (NestedKey.datas ks) as → as = []
  | [], _, _, r => by cases r; rfl
  | k :: ks, _, _, r => by
    cases r with
    | cons r1 r2 => rw [readsN k _ _ r1, readsNs ks _ _ r2]; rfl
end
theorem perm_lift {α β : Type} (f : α → β) : ∀ {xs ys : List β}, xs.Perm ys → ∀ L : List α, ys = L.map f → ∃ M : List α, M.Perm L ∧ xs = M.map f := by
  intro xs ys h
  induction h with
  | nil =>
    intro L e
    cases L with
    | nil => exact ⟨[], .nil, rfl⟩
    | cons a l => cases e
  | cons x _ ih =>
    intro L e
    cases L with
    | nil => cases e
    | cons a l =>
      rw [List.map_cons] at e
      injection e with e1 e2
      obtain ⟨M, pm, em⟩ := ih l e2
      exact ⟨a :: M, pm.cons a, by rw [List.map_cons, e1, em]⟩
  | swap x y l0 =>
    intro L e
    cases L with
    | nil => cases e
    | cons a l =>
      rw [List.map_cons] at e
      injection e with e1 e2
      cases l with
      | nil => cases e2
      | cons b l =>
        rw [List.map_cons] at e2
        injection e2 with e2 e3
        exact ⟨b :: a :: l, .swap a b l, by rw [List.map_cons, List.map_cons, e1, e2, e3]⟩
  | trans _ _ ih1 ih2 =>
    intro L e
    obtain ⟨M, pm, em⟩ := ih2 L e
    obtain ⟨M2, pm2, em2⟩ := ih1 M em
    exact ⟨M2, pm2.trans pm, em2⟩
def refEl (p : Addr × NestedKey) : Value := .ref p.1
def datEl (p : Addr × NestedKey) : PyData := p.2.data
theorem each_refs {h : Heap} : ∀ {M : Els}, (∀ p ∈ M, Reads h (refEl p) (datEl p) []) → PySem.W.EachIs (fun v p => v = refEl p ∧ Reads h v (datEl p) []) (M.map refEl) M
  | [], _ => .nil
  | p :: M, k => .cons ⟨rfl, k p List.mem_cons_self⟩ (each_refs fun r hr => k r (List.mem_cons_of_mem _ hr))
theorem each_back {R : Value → Addr × NestedKey → Prop} (e : ∀ v p, R v p → v = refEl p) : ∀ {vs : List Value} {M : Els}, PySem.W.EachIs R vs M → vs = M.map refEl
  | _, _, .nil => rfl
  | _, _, .cons h t => by rw [List.map_cons, e _ _ h, each_back e t]
section
variable {P : Program} {w : World} {A : Around} {E : Value → Shared → Prop} {s : Shared}
/-- list.sort() of a list of such tuples -/
theorem sort_keys {a : Addr} {M : Els} {n : Nat} {Q : Value → Shared → Prop} (ho : s.heap.get? a = some (seqObj "list" (M.map refEl).toArray n)) (reads : ∀ p ∈ M, Reads s.heap (refEl p) (datEl p) []) (al : PySem.W.AllAlike (M.map datEl)) (so : PySem.W.Sortable (M.map datEl)) (few : M.length ≤ sizeLine)
    (room : ∀ p ∈ M, A.units + 1 + (datEl p).depth < cLine) (q : ∀ M2 : Els, M2.Perm M → Srt (M2.map datEl) → Q .none { s with heap := sortedHeap s.heap a (M.map refEl) (M2.map refEl).toArray }) :
    wpAny (model P w) A (call (.builtin "list.sort") [.ref a]) Q E s := by
  have e := each_refs reads
  refine PySem.W.list_sort_data (R := fun v p => v = refEl p) (enc := datEl) ho (e.mono fun v p z => z.1) (e.mono fun v p z => ⟨[], z.2, by simp⟩) al so few room fun out _ eo => ?_
  rw [each_back (fun v p z => z) eo]
  exact q _ (List.mergeSort_perm ..) (srt_merge datEl M)
/-- sorted(s), s a set of such tuples -/
theorem sorted_keys {a : Addr} {L : Els} {es : Array (Int × Value)} {ep : Nat} {t : SetTable} {Q : Value → Shared → Prop} (R : NTab P w s.heap a L es ep t) (cool : A.handled = none) (reads : ∀ p ∈ L, Reads s.heap (refEl p) (datEl p) []) (al : PySem.W.AllAlike (L.map datEl)) (so : PySem.W.Sortable (L.map datEl))
    (room : ∀ p ∈ L, A.units + 2 + (datEl p).depth < cLine)
    (q : ∀ s2 p c (M : Els), (∀ b o, s.heap.get? b = some o → s2.heap.get? b = some o) → s2.gens = s.gens → s2.os = s.os → s.heap.objs.size ≤ p → s2.heap.get? p = some (seqObj "list" (M.map refEl).toArray c) → M.Perm L → Srt (M.map datEl) → Q (.ref p) s2) :
    wpAny (model P w) A (call (.builtin "sorted") [.ref a]) Q E s := by
  obtain ⟨o, ho, hex, hd⟩ := R.obj
  have sz := R.sz
  have few := R.few
  refine Calls.call_function_entry kind_sorted plain_sorted entry_sorted (args_sorted1 _) ?_
  unfold Builtin.«sorted»
  refine wpAny_bind (m := checkCount "sorted" 1 1 _) (wpAny_pure ?_)
  refine wpAny_bind (collect_set (A := A.in1) cool ⟨o, ho, hex.1, hd⟩ R.fit (by unfold scanBound; omega) R.tab.ris R.ld fun s1 vs k1 gr g1 o1 pm => ?_)
  have er : es.toList.map (·.2) = L.map refEl := by
    rw [R.rows, List.map_map]
    rfl
  rw [er] at pm
  obtain ⟨M, pM, rfl⟩ := perm_lift refEl pm L rfl
  have lM : M.length = L.length := pM.length_eq
  refine wpAny_bind (wpAny_newList ?_ (by rw [List.length_map, sizeLine_eq]; omega))
  have gl : (s1.heap.push (seqObj "list" (M.map refEl).toArray 0)).get? s1.heap.objs.size = some (seqObj "list" (M.map refEl).toArray 0) := Heap.get?_push_size _ rfl
  have on : ∀ p ∈ M, p ∈ L := fun p hp => pM.mem_iff.mp hp
  have rd : ∀ p ∈ M, Reads (s1.heap.push (seqObj "list" (M.map refEl).toArray 0)) (refEl p) (datEl p) [] := fun p hp => PyProof.Rows.Reads.keeps (fun b u e => Heap.get?_push_of_some _ (k1 b u e)) (reads p (on p hp))
  have sub : ∀ d ∈ M.map datEl, d ∈ L.map datEl := fun d hd => (pM.map datEl).mem_iff.mp hd
  refine wpAny_bind (wpAny_holding (sort_keys (s := { s1 with heap := s1.heap.push (seqObj "list" (M.map refEl).toArray 0) }) gl rd (fun d hd d' hd' => al d (sub d hd) d' (sub d' hd'))
    (so.imp (fun z d hd => z d (sub d hd)) fun z d hd => z d (sub d hd)) (by rw [sizeLine_eq]; omega) (fun p hp => by have := room p (on p hp); simp only [Around.in1_units]; omega) fun M2 p2 sr => ?_))
  obtain ⟨c, gc⟩ := sortedHeap_at (vs := M.map refEl) (out := (M2.map refEl).toArray) gl
  refine wpAny_pure ⟨_, rfl, q _ s1.heap.objs.size c M2 (fun b u e => ?_) g1 o1 gr gc (p2.trans pM) sr⟩
  have z := k1 b u e
  have lt := Heap.lt_size z
  show (sortedHeap (s1.heap.push (seqObj "list" (M.map refEl).toArray 0)) s1.heap.objs.size (M.map refEl) (M2.map refEl).toArray).get? b = some u
  rw [sortedHeap_old (Nat.ne_of_lt lt) (by rw [size_push']; exact Nat.lt_succ_of_lt lt)]
  exact Heap.get?_push_of_some _ z
end
/-! ### in the layer -/
section
variable {X : Cx}
/-- the sorted keys are a new list -/
def SortedTo (L : Els) (H : Hp) (Q : VK) : Prop := ∀ (M : Els) (p : Addr) (H' : Hp), M.Perm L → Srt (M.map datEl) → H p = none → H' p = some (.lst (M.map fun p => V.ref p.1)) → Same H H' → Q (.ref p) H'
def rSortN (K : PySem.W.Frag) (P : Program) (w : World) : List V → Hp → VK → Prop := fun xs H Q => ∃ (a : Addr) (L : Els), xs = [.ref a] ∧ H a = some (SetN P w a L) ∧ (∀ p ∈ L, TupK K H p.1 p.2) ∧ PySem.W.AllAlike (L.map datEl) ∧ PySem.W.Sortable (L.map datEl) ∧ (∀ p ∈ L, (datEl p).depth ≤ 50) ∧ SortedTo L H Q
theorem cr_sortN (hc : X.calm = true) (hu : X.A.units + 64 < cLine) : CallR X (.builtin "sorted") (rSortN X.K X.prog X.w) := by
  intro pins s σ H xs us Q I r h
  obtain ⟨a, L, rfl, ha, els, al, so, dp, q⟩ := h
  obtain ⟨u, rfl, ru⟩ := vals1 r
  cases (show u = Value.ref a from ru)
  obtain ⟨es, ep, t, R⟩ := setN_tab I ha els
  refine sorted_keys R (I.ok.hd hc) (fun p hp => ?_) al so (fun p hp => by have := dp p hp; omega) fun s2 p c M kp g1 o1 gr gp pm sr => ?_
  · obtain ⟨as, rd⟩ := (els p hp).reads I
    have z := readsN p.2 _ _ rd
    subst z
    exact rd
  · have few : M.length < 64 := by rw [pm.length_eq]; exact R.few
    have fr : H p = none := I.hok.fresh gr
    have J : Inv X pins σ (upd H p (.lst (M.map fun p => V.ref p.1))) { s with heap := s2.heap, gens := s2.gens, drawn := s2.drawn, toks := s2.toks } :=
      I.call (ch := []) (Un.laid kp gr fr) (I.hok.laid kp gr ⟨by rw [List.length_map, sizeLine_eq]; omega, _, c, valsOf M, gp⟩) (by rw [g1]; exact I.bare) (fun _ z => nomatch z)
    have e : s2 = { s with heap := s2.heap, gens := s2.gens, drawn := s2.drawn, toks := s2.toks } := by
      cases s2
      cases s
      cases o1
      rfl
    rw [e]
    exact ⟨.ref p, _, J, rfl, q M p _ pm sr fr upd_same (Same.neu fr)⟩
/-- sorted(l), l a list of such tuples -/
def rSortLN (K : PySem.W.Frag) : List V → Hp → VK → Prop := fun xs H Q => ∃ (l : Addr) (L : Els), xs = [.ref l] ∧ SqL K H l (L.map fun p => V.ref p.1) ∧ (∀ p ∈ L, TupK K H p.1 p.2) ∧ PySem.W.AllAlike (L.map datEl) ∧ PySem.W.Sortable (L.map datEl) ∧ (∀ p ∈ L, (datEl p).depth ≤ 50) ∧ SortedTo L H Q
theorem cr_sortLN (hu : X.A.units + 64 < cLine) : CallR X (.builtin "sorted") (rSortLN X.K) := by
  intro pins s σ H xs us Q I r h
  obtain ⟨l, L, rfl, hl, els, al, so, dp, q⟩ := h
  obtain ⟨u, rfl, ru⟩ := vals1 r
  cases (show u = Value.ref l from ru)
  obtain ⟨its, rv, pl, hz⟩ := I.list hl
  have rd : ∀ p ∈ L, Reads s.heap (refEl p) (datEl p) [] := fun p hp => by
    obtain ⟨as, rd⟩ := (els p hp).reads I
    have z := readsN p.2 _ _ rd
    subst z
    exact rd
  have ev := each_refs rd
  have eits : its = L.map refEl := refsOf rv
  subst eits
  have few : L.length ≤ sizeLine := by rw [List.length_map] at hz; exact hz
  refine PySem.W.sorted_data (R := fun v p => v = refEl p) (enc := datEl) pl.isList (ev.mono fun v p z => z.1) (ev.mono fun v p z => ⟨[], z.2⟩) al so few (fun p hp => by have := dp p hp; omega) fun out ln eo => ?_
  rw [each_back (fun v p z => z) eo]
  have fr : H (s.heap.objs.size + 1) = none := I.hok.fresh (Nat.le_succ _)
  obtain ⟨c, gc⟩ := sortedAll_at s.heap (L.map refEl) ((L.mergeSort (PySem.W.dataLe false datEl)).map refEl).toArray
  have pm : (L.mergeSort (PySem.W.dataLe false datEl)).Perm L := List.mergeSort_perm ..
  have sr : Srt ((L.mergeSort (PySem.W.dataLe false datEl)).map datEl) := srt_merge datEl L
  generalize L.mergeSort (PySem.W.dataLe false datEl) = M at pm gc sr ⊢
  refine ⟨.ref (s.heap.objs.size + 1), upd H (s.heap.objs.size + 1) (.lst (M.map fun p => V.ref p.1)), ?_, rfl, q M _ _ pm sr fr upd_same (Same.neu fr)⟩
  exact I.laid (t' := s.toks) (fun b u e => sortedAll_old e) (Nat.le_succ _) ⟨by rw [List.length_map, pm.length_eq]; exact few, _, c, valsOf M, gc⟩
end
end Nv

set_option linter.all false
set_option maxRecDepth 100000
set_option maxHeartbeats 4000000
namespace VL
open PySem PySem.Spec PyProof.Rows L2 Nv
/-! # values as trees; slots hold trees -/
inductive D where
  | non | bl (b : Bool) | int (i : Int) | str (x : Str) | lst (ds : List D) | tup (ds : List D) | ins (C : Addr) (fs : List (Str × D)) | adr (a : Addr) | ty (n : String)
/-- a tuple without a dict of its own -/
def PlT (K : PySem.W.Frag) (F : Hp) (a : Addr) (xs : List V) : Prop := (∃ o, F a = some (.frz o (.tup xs)) ∧ o.dict = none) ∨
  ∃ (o : Obj) (its : Array Value) (n : Nat), K.lookup a = some o ∧ o.cls = .type "tuple" ∧ o.dict = none ∧ o.data = .seq its n ∧ its.size ≤ sizeLine ∧ Vals xs its.toList
theorem PlT.sq {K : PySem.W.Frag} {F : Hp} {a : Addr} {xs : List V} (h : PlT K F a xs) : SqT K F a xs := by
  rcases h with ⟨o, h, _⟩ | ⟨o, its, n, h1, h2, _, h3⟩
  · exact .inl (.inr ⟨o, h⟩)
  · exact .inr ⟨o, its, n, h1, h2, h3⟩
theorem PlT.up {K : PySem.W.Frag} {F F' : Hp} {a : Addr} {xs : List V} (e : Same F F') (h : PlT K F a xs) : PlT K F' a xs := h.imp (fun ⟨o, h, d⟩ => ⟨o, e _ _ h, d⟩) id
mutual
/-- v is the tree d in the heap F -/
inductive Rp (K : PySem.W.Frag) (F : Hp) : V → D → Prop
  | non : Rp K F .non .non
  | bl (b : Bool) : Rp K F (.bl b) (.bl b)
  | int (i : Int) : Rp K F (.int i) (.int i)
  | str (x : Str) : Rp K F (.str x) (.str x)
  | lst {a : Addr} {xs : List V} {ds : List D} : F a = some (.lst xs) → Rps K F xs ds → Rp K F (.ref a) (.lst ds)
  | tup {a : Addr} {xs : List V} {ds : List D} : PlT K F a xs → Rps K F xs ds → Rp K F (.ref a) (.tup ds)
  | ins {a C dx : Addr} {gs : List (Str × V)} {fs : List (Str × D)} : F a = some (.ins C dx gs) → RpF K F gs fs → Rp K F (.ref a) (.ins C fs)
  | adr (a : Addr) : Rp K F (.ref a) (.adr a)
  | ty (n : String) : Rp K F (.ty n) (.ty n)
inductive Rps (K : PySem.W.Frag) (F : Hp) : List V → List D → Prop
  | nil : Rps K F [] []
  | cons {v : V} {vs : List V} {d : D} {ds : List D} : Rp K F v d → Rps K F vs ds → Rps K F (v :: vs) (d :: ds)
inductive RpF (K : PySem.W.Frag) (F : Hp) : List (Str × V) → List (Str × D) → Prop
  | nil : RpF K F [] []
  | cons {n : Str} {v : V} {vs : List (Str × V)} {d : D} {ds : List (Str × D)} : Rp K F v d → RpF K F vs ds → RpF K F ((n, v) :: vs) ((n, d) :: ds)
end
section
variable {K : PySem.W.Frag} {F F' : Hp}
theorem sqL_up {a : Addr} {xs : List V} (e : Same F F') (h : SqL K F a xs) : SqL K F' a xs := same_l e h
mutual
theorem Rp.up (e : Same F F') : ∀ {v : V} {d : D}, Rp K F v d → Rp K F' v d
  | _, _, .non => .non
  | _, _, .bl b => .bl b
  | _, _, .int i => .int i
  | _, _, .str x => .str x
  | _, _, .lst h r => .lst (e _ _ h) (Rps.up e r)
  | _, _, .tup h r => .tup (h.up e) (Rps.up e r)
  | _, _, .ins h r => .ins (e _ _ h) (RpF.up e r)
  | _, _, .adr a => .adr a
  | _, _, .ty n => .ty n
theorem Rps.up (e : Same F F') : ∀ {vs : List V} {ds : List D}, Rps K F vs ds → Rps K F' vs ds
  | _, _, .nil => .nil
  | _, _, .cons h t => .cons (Rp.up e h) (Rps.up e t)
theorem RpF.up (e : Same F F') : ∀ {vs : List (Str × V)} {ds : List (Str × D)}, RpF K F vs ds → RpF K F' vs ds
  | _, _, .nil => .nil
  | _, _, .cons h t => .cons (Rp.up e h) (RpF.up e t)
end
theorem Rps.length : ∀ {vs : List V} {ds : List D}, Rps K F vs ds → vs.length = ds.length
  | _, _, .nil => rfl
  | _, _, .cons _ t => by rw [List.length_cons, List.length_cons, t.length]
theorem Rps.get : ∀ {vs : List V} {ds : List D} {i : Nat} {v : V}, Rps K F vs ds → vs[i]? = some v → ∃ d, ds[i]? = some d ∧ Rp K F v d
  | _, _, 0, _, .cons h t, e => by
    cases e
    exact ⟨_, rfl, h⟩
  | _, _, i + 1, _, .cons h t, e => by
    obtain ⟨d, h1, h2⟩ := Rps.get (i := i) t (by simpa using e)
    exact ⟨d, by simpa using h1, h2⟩
  | _, _, i, _, .nil, e => by simp at e
theorem Rps.getD : ∀ {vs : List V} {ds : List D} {i : Nat} {d : D}, Rps K F vs ds → ds[i]? = some d → ∃ v, vs[i]? = some v ∧ Rp K F v d
  | _, _, 0, _, .cons h t, e => by
    cases e
    exact ⟨_, rfl, h⟩
  | _, _, i + 1, _, .cons h t, e => by
    obtain ⟨d, h1, h2⟩ := Rps.getD (i := i) t (by simpa using e)
    exact ⟨d, by simpa using h1, h2⟩
  | _, _, i, _, .nil, e => by simp at e
theorem Rps.app : ∀ {vs ws : List V} {ds es : List D}, Rps K F vs ds → Rps K F ws es → Rps K F (vs ++ ws) (ds ++ es)
  | _, _, _, _, .nil, r => r
  | _, _, _, _, .cons h t, r => .cons h (t.app r)
theorem Rps.drop : ∀ {vs : List V} {ds : List D} (n : Nat), Rps K F vs ds → Rps K F (vs.drop n) (ds.drop n)
  | _, _, 0, r => r
  | _, _, _ + 1, .nil => .nil
  | _, _, n + 1, .cons _ t => t.drop n
theorem Rps.take : ∀ {vs : List V} {ds : List D} (n : Nat), Rps K F vs ds → Rps K F (vs.take n) (ds.take n)
  | _, _, 0, _ => .nil
  | _, _, _ + 1, .nil => .nil
  | _, _, n + 1, .cons h t => .cons h (t.take n)
theorem Rps.erase : ∀ {vs : List V} {ds : List D} (n : Nat), Rps K F vs ds → Rps K F (vs.eraseIdx n) (ds.eraseIdx n)
  | _, _, _, .nil => .nil
  | _, _, 0, .cons _ t => t
  | _, _, n + 1, .cons h t => .cons h (t.erase n)
theorem Rps.setI {v : V} {d : D} (q : Rp K F v d) : ∀ {vs : List V} {ds : List D} (n : Nat), Rps K F vs ds → Rps K F (vs.set n v) (ds.set n d)
  | _, _, _, .nil => .nil
  | _, _, 0, .cons _ t => .cons q t
  | _, _, n + 1, .cons h t => .cons h (t.setI q n)
theorem Rps.dropLast {vs : List V} {ds : List D} (r : Rps K F vs ds) : Rps K F vs.dropLast ds.dropLast := by
  rw [List.dropLast_eq_take, List.dropLast_eq_take, r.length]
  exact r.take _
theorem Rps.rep {vs : List V} {ds : List D} (r : Rps K F vs ds) : ∀ k : Nat, Rps K F (List.replicate k vs).flatten (List.replicate k ds).flatten
  | 0 => .nil
  | k + 1 => by
    rw [List.replicate_succ, List.flatten_cons, List.replicate_succ, List.flatten_cons]
    exact r.app (r.rep k)
theorem RpF.lookup {n : Str} : ∀ {vs : List (Str × V)} {ds : List (Str × D)} {d : D}, RpF K F vs ds → ds.lookup n = some d → ∃ v, vs.lookup n = some v ∧ Rp K F v d
  | _, _, _, .nil, e => by cases e
  | _, _, _, .cons (n := k) h t, e => by
    rw [List.lookup_cons] at e ⊢
    cases b : n == k with
    | true => rw [b] at e; cases e; exact ⟨_, rfl, h⟩
    | false => rw [b] at e; exact t.lookup e
end

/-! ### the context of a def's run -/
/-- the heap at the entry, what of it is told, the draws' list, what is not looked at (the draws' list, an object that is being made), exceptions -/
structure Ct where
  K : PySem.W.Frag
  F0 : Hp
  H0 : Hp
  m : Option (Addr × Addr × List Int)
  hs : List Addr
def hid (hs : List Addr) (H : Hp) : Hp := fun b => if b ∈ hs then none else H b
theorem hid_of {hs : List Addr} {H : Hp} {b : Addr} {o : HO} (h : b ∉ hs) (e : H b = some o) : hid hs H b = some o := by unfold hid; rw [if_neg h]; exact e
theorem of_hid {hs : List Addr} {H : Hp} {b : Addr} {o : HO} (e : hid hs H b = some o) : b ∉ hs ∧ H b = some o := by
  unfold hid at e
  split at e
  · cases e
  · exact ⟨‹_›, e⟩
/-- the draws' list is well -/
def MOk (m : Option (Addr × Addr × List Int)) (H : Hp) (t : Nat) : Prop := ∀ L l cs, m = some (L, l, cs) → Lan H L l cs t
/-- from F, H to F', H': what is told stays, what is new in F' is new; H' has all addresses of H -/
structure Gro (hs : List Addr) (F H F' H' : Hp) : Prop where
  sF : Same F F'
  sH : Same (hid hs H) (hid hs H')
  nw : ∀ b o, F' b = some o → F b = some o ∨ H b = none
  al : ∀ b, H' b = none → H b = none
theorem Gro.refl (hs : List Addr) (F H : Hp) : Gro hs F H F H := ⟨Same.refl _, Same.refl _, fun _ _ h => .inl h, fun _ h => h⟩
theorem Gro.trans {hs : List Addr} {F H F1 H1 F2 H2 : Hp} (a : Gro hs F H F1 H1) (b : Gro hs F1 H1 F2 H2) : Gro hs F H F2 H2 :=
  ⟨a.sF.trans b.sF, a.sH.trans b.sH, fun c o h => by
    rcases b.nw c o h with h | h
    · exact a.nw c o h
    · exact .inr (a.al c h), fun c h => a.al c (b.al c h)⟩
/-- what holds at the end of a run -/
structure Done (c : Ct) (F H : Hp) (t : Nat) : Prop where
  gr : Gro c.hs c.F0 c.H0 F H
  fh : Same F H
  hd : ∀ b ∈ c.hs, F b = none ∧ c.H0 b ≠ none
  mo : MOk c.m H t
  mh : ∀ L l cs, c.m = some (L, l, cs) → L ∈ c.hs ∧ c.H0 l ≠ none
/-! ### slots -/
inductive Sl where
  | un | fr (d : D) | ow (ds : List D) | oi (C : Addr) (fs : List (Str × D))
/-- a slot's V, and the tree; a: its address where it is its own -/
def SlOk (c : Ct) (F H : Hp) (a : Addr) (x : Option V) : Sl → Prop
  | .un => True
  | .fr d => ∃ v, x = some v ∧ Rp c.K F v d
  | .ow ds => x = some (.ref a) ∧ F a = none ∧ c.H0 a = none ∧ ∃ vs, H a = some (.lst vs) ∧ Rps c.K F vs ds
  | .oi C fs => x = some (.ref a) ∧ a ∈ c.hs ∧ (∀ L l cs, c.m = some (L, l, cs) → a ≠ L) ∧ ∃ dx gs, H a = some (.ins C dx gs) ∧ RpF c.K F gs fs
def isOw : Sl → Bool
  | .ow _ => true
  | .oi _ _ => true
  | _ => false
structure Fits (c : Ct) (F : Hp) (δ : List Sl) (σ : L2.St) (H : Hp) (t : Nat) : Prop where
  dn : Done c F H t
  len : δ.length = σ.length
  sl : ∃ A : Nat → Addr, (∀ i s x, δ[i]? = some s → σ[i]? = some x → SlOk c F H (A i) x s) ∧ ∀ i j s u, δ[i]? = some s → δ[j]? = some u → isOw s = true → isOw u = true → A i = A j → i = j
section
variable {c : Ct} {F F' H H' : Hp} {δ : List Sl} {σ : L2.St} {t t' : Nat}
theorem Done.ne (d : Done c F H t) {b : Addr} {o : HO} (h : F b = some o) : b ∉ c.hs := fun z => by rw [(d.hd b z).1] at h; cases h
theorem Done.hidF (d : Done c F H t) : Same F (hid c.hs H) := fun b o h => hid_of (d.ne h) (d.fh b o h)
theorem Done.fresh (d : Done c F H t) {p : Addr} (np : H p = none) : F p = none ∧ c.H0 p = none ∧ p ∉ c.hs := by
  refine ⟨?_, d.gr.al p np, fun z => (d.hd p z).2 (d.gr.al p np)⟩
  cases e : F p with
  | none => rfl
  | some o => rw [d.fh p o e] at np; cases np
/-- the heap grows, the frozen part stays -/
theorem Done.grow (d : Done c F H t) (g : Gro c.hs F H F' H') (fh : Same F' H') (hh : ∀ b ∈ c.hs, F' b = none) (mo : MOk c.m H' t') : Done c F' H' t' :=
  ⟨d.gr.trans g, fh, fun b hb => ⟨hh b hb, (d.hd b hb).2⟩, mo, d.mh⟩
theorem MOk.same {m : Option (Addr × Addr × List Int)} (h : MOk m H t) (e : Same H H') : MOk m H' t := fun L l cs z => (h L l cs z).same e
/-- a new object that is told to be frozen -/
theorem Gro.new {hs : List Addr} {F H H' : Hp} {p : Addr} {o : HO} (np : H p = none) (fp : F p = none) (s : Same H H') : Gro hs F H (upd F p o) H' :=
  ⟨Same.neu fp, fun b u h => let ⟨h1, h2⟩ := of_hid h; hid_of h1 (s b u h2), fun b u h => by
    by_cases z : b = p
    · exact .inr (z ▸ np)
    · rw [upd_ne z] at h; exact .inl h, fun b h => by
    cases z : H b with
    | none => rfl
    | some u => rw [s b u z] at h; cases h⟩
theorem Gro.same {hs : List Addr} {F H H' : Hp} (s : Same H H') : Gro hs F H F H' :=
  ⟨Same.refl _, fun b u h => let ⟨h1, h2⟩ := of_hid h; hid_of h1 (s b u h2), fun b u h => .inl h, fun b h => by
    cases z : H b with
    | none => rfl
    | some u => rw [s b u z] at h; cases h⟩
theorem Done.newF (d : Done c F H t) {p : Addr} {o : HO} (np : H p = none) (e : H' p = some o) (s : Same H H') : Done c (upd F p o) H' t := by
  obtain ⟨f1, f2, f3⟩ := d.fresh np
  refine d.grow (Gro.new np f1 s) (fun b u h => ?_) (fun b hb => ?_) (d.mo.same s)
  · by_cases z : b = p
    · rw [z, upd_same] at h; cases h; rw [z]; exact e
    · rw [upd_ne z] at h; exact s b u (d.fh b u h)
  · have ne : b ≠ p := fun z => f3 (by rw [← z]; exact hb)
    rw [upd_ne ne]; exact (d.hd b hb).1
theorem Done.newH (d : Done c F H t) (s : Same H H') : Done c F H' t := d.grow (Gro.same s) (fun b u h => s b u (d.fh b u h)) (fun b hb => (d.hd b hb).1) (d.mo.same s)
/-- slots under growth -/
theorem SlOk.up {a : Addr} {x : Option V} {s : Sl} (h : SlOk c F H a x s) (g : Gro c.hs F H F' H') (oi : ∀ C fs, s = .oi C fs → H' a = H a) (hn : ∀ b ∈ c.hs, c.H0 b ≠ none) : SlOk c F' H' a x s := by
  cases s with
  | un => trivial
  | fr d => obtain ⟨v, e, r⟩ := h; exact ⟨v, e, r.up g.sF⟩
  | ow ds =>
    obtain ⟨e, f, n, vs, q, r⟩ := h
    refine ⟨e, ?_, n, vs, ?_, r.up g.sF⟩
    · cases z : F' a with
      | none => rfl
      | some o =>
        rcases g.nw a o z with y | y
        · rw [f] at y; cases y
        · rw [q] at y; cases y
    · have ah : a ∉ c.hs := fun z => hn a z n
      exact (of_hid (g.sH a _ (hid_of ah q))).2
  | oi C fs =>
    obtain ⟨e, f, n, dx, gs, q, r⟩ := h
    exact ⟨e, f, n, dx, gs, by rw [oi C fs rfl]; exact q, r.up g.sF⟩
/-- no object under the making among the hidden ones changes -/
def SelfSame (c : Ct) (H H' : Hp) : Prop := ∀ a ∈ c.hs, (∀ L l cs, c.m = some (L, l, cs) → a ≠ L) → H' a = H a
theorem Fits.grow (f : Fits c F δ σ H t) (g : Gro c.hs F H F' H') (d : Done c F' H' t') (ss : SelfSame c H H') : Fits c F' δ σ H' t' := by
  obtain ⟨A, h1, h2⟩ := f.sl
  refine ⟨d, f.len, A, fun i s x e1 e2 => (h1 i s x e1 e2).up g (fun C fs z => ?_) (fun b hb => (f.dn.hd b hb).2), h2⟩
  have q := h1 i s x e1 e2
  rw [z] at q
  obtain ⟨_, q2, q3, _⟩ := q
  exact ss _ q2 q3
theorem SelfSame.refl (c : Ct) (H : Hp) : SelfSame c H H := fun _ _ _ => rfl
theorem SelfSame.trans {H1 H2 : Hp} (a : SelfSame c H H1) (b : SelfSame c H1 H2) : SelfSame c H H2 := fun p hp n => (b p hp n).trans (a p hp n)
theorem Fits.self (f : Fits c F δ σ H t) (s : Same H H') : SelfSame c H H' := fun a ha _ => by
  cases z : H a with
  | none => exact absurd (f.dn.gr.al a z) (f.dn.hd a ha).2
  | some o => exact s a o z
theorem Fits.newF (f : Fits c F δ σ H t) {p : Addr} {o : HO} (np : H p = none) (e : H' p = some o) (s : Same H H') : Fits c (upd F p o) δ σ H' t :=
  f.grow (Gro.new np (f.dn.fresh np).1 s) (f.dn.newF np e s) (f.self s)
theorem Fits.newH (f : Fits c F δ σ H t) (s : Same H H') : Fits c F δ σ H' t := f.grow (Gro.same s) (f.dn.newH s) (f.self s)
/-- a frozen tree is stored -/
theorem Fits.setF (f : Fits c F δ σ H t) (i : Nat) {v : V} {d : D} (r : Rp c.K F v d) : Fits c F (δ.set i (.fr d)) (σ.set i (some v)) H t := by
  obtain ⟨A, h1, h2⟩ := f.sl
  refine ⟨f.dn, by rw [List.length_set, List.length_set]; exact f.len, A, fun j s x e1 e2 => ?_, fun j k s u e1 e2 o1 o2 e => ?_⟩
  · rw [List.getElem?_set] at e1 e2
    by_cases z : i = j
    · subst z
      rw [if_pos rfl] at e1 e2
      split at e1
      · cases e1
        split at e2
        · cases e2; exact ⟨v, rfl, r⟩
        · cases e2
      · cases e1
    · rw [if_neg z] at e1 e2
      exact h1 j s x e1 e2
  · have no : ∀ {j : Nat} {s : Sl}, (δ.set i (.fr d))[j]? = some s → isOw s = true → δ[j]? = some s := fun {j s} e1 o1 => by
      rw [List.getElem?_set] at e1
      split at e1
      · split at e1
        · cases e1; cases o1
        · cases e1
      · exact e1
    exact h2 j k s u (no e1 o1) (no e2 o2) o1 o2 e
theorem Fits.setU (f : Fits c F δ σ H t) (i : Nat) (x : Option V) : Fits c F (δ.set i .un) (σ.set i x) H t := by
  obtain ⟨A, h1, h2⟩ := f.sl
  refine ⟨f.dn, by rw [List.length_set, List.length_set]; exact f.len, A, fun j s x e1 e2 => ?_, fun j k s u e1 e2 o1 o2 e => ?_⟩
  · rw [List.getElem?_set] at e1 e2
    by_cases z : i = j
    · subst z
      rw [if_pos rfl] at e1 e2
      split at e1
      · cases e1; trivial
      · cases e1
    · rw [if_neg z] at e1 e2
      exact h1 j s x e1 e2
  · have no : ∀ {j : Nat} {s : Sl}, (δ.set i .un)[j]? = some s → isOw s = true → δ[j]? = some s := fun {j s} e1 o1 => by
      rw [List.getElem?_set] at e1
      split at e1
      · split at e1
        · cases e1; cases o1
        · cases e1
      · exact e1
    exact h2 j k s u (no e1 o1) (no e2 o2) o1 o2 e
/-- a slot is forgotten -/
theorem Fits.forget (f : Fits c F δ σ H t) (i : Nat) : Fits c F (δ.set i .un) σ H t := by
  obtain ⟨A, h1, h2⟩ := f.sl
  refine ⟨f.dn, by rw [List.length_set]; exact f.len, A, fun j s x e1 e2 => ?_, fun j k s u e1 e2 o1 o2 e => ?_⟩
  · rw [List.getElem?_set] at e1
    by_cases z : i = j
    · subst z
      rw [if_pos rfl] at e1
      split at e1
      · cases e1; trivial
      · cases e1
    · rw [if_neg z] at e1
      exact h1 j s x e1 e2
  · have no : ∀ {j : Nat} {s : Sl}, (δ.set i .un)[j]? = some s → isOw s = true → δ[j]? = some s := fun {j s} e1 o1 => by
      rw [List.getElem?_set] at e1
      split at e1
      · split at e1
        · cases e1; cases o1
        · cases e1
      · exact e1
    exact h2 j k s u (no e1 o1) (no e2 o2) o1 o2 e
/-- a new list is stored as the slot's own -/
theorem Fits.setO (f : Fits c F δ σ H t) (i : Nat) {p : Addr} {vs : List V} {ds : List D} (np : H p = none) (e : H' p = some (.lst vs)) (s : Same H H') (r : Rps c.K F vs ds) : Fits c F (δ.set i (.ow ds)) (σ.set i (some (.ref p))) H' t := by
  obtain ⟨f1, f2, f3⟩ := f.dn.fresh np
  have g := f.newH s
  obtain ⟨A, h1, h2⟩ := g.sl
  obtain ⟨A0, h01, _⟩ := f.sl
  refine ⟨g.dn, by rw [List.length_set, List.length_set]; exact f.len, fun j => if j = i then p else A j, fun j u x e1 e2 => ?_, fun j k u w e1 e2 o1 o2 q => ?_⟩
  · rw [List.getElem?_set] at e1 e2
    by_cases z : i = j
    · subst z
      rw [if_pos rfl] at e1 e2
      split at e1
      · cases e1
        split at e2
        · cases e2
          show SlOk c F H' (if i = i then p else A i) _ _
          rw [if_pos rfl]
          exact ⟨rfl, f1, f2, vs, e, r⟩
        · cases e2
      · cases e1
    · rw [if_neg z] at e1 e2
      show SlOk c F H' (if j = i then p else A j) _ _
      rw [if_neg (fun y => z y.symm)]
      exact h1 j u x e1 e2
  · -- others' addresses are older
    have len : ∀ {j : Nat} {u : Sl}, δ[j]? = some u → ∃ x, σ[j]? = some x := fun {j u} e0 => by
      have l := (List.getElem?_eq_some_iff.mp e0).1
      rw [f.len] at l
      exact ⟨_, List.getElem?_eq_getElem l⟩
    have old : ∀ {j : Nat} {u : Sl}, i ≠ j → (δ.set i (.ow ds))[j]? = some u → isOw u = true → δ[j]? = some u ∧ A j ≠ p := fun {j u} z e1 o1 => by
      rw [List.getElem?_set, if_neg z] at e1
      refine ⟨e1, ?_⟩
      obtain ⟨x, ex⟩ := len e1
      have q1 := h1 j u x e1 ex
      have q0 := h01 j u x e1 ex
      cases u with
      | un => cases o1
      | fr d => cases o1
      | ow es =>
        obtain ⟨a1, _⟩ := q1
        obtain ⟨b1, _, _, ws, b2, _⟩ := q0
        rw [a1] at b1
        have e0 : A j = A0 j := by
          have := Option.some.inj b1
          injection this
        rw [e0]
        exact ne_of_none b2 np
      | oi C fs =>
        obtain ⟨_, a1, _⟩ := q1
        exact fun y => f3 (y ▸ a1)
    show j = k
    by_cases zj : i = j
    · by_cases zk : i = k
      · rw [← zj, ← zk]
      · obtain ⟨_, n⟩ := old zk e2 o2
        have q : (if j = i then p else A j) = (if k = i then p else A k) := q
        rw [if_pos zj.symm, if_neg (fun y => zk y.symm)] at q
        exact absurd q.symm n
    · obtain ⟨g1, n1⟩ := old zj e1 o1
      by_cases zk : i = k
      · have q : (if j = i then p else A j) = (if k = i then p else A k) := q
        rw [if_neg (fun y => zj y.symm), if_pos zk.symm] at q
        exact absurd q n1
      · obtain ⟨g2, n2⟩ := old zk e2 o2
        have q : (if j = i then p else A j) = (if k = i then p else A k) := q
        rw [if_neg (fun y => zj y.symm), if_neg (fun y => zk y.symm)] at q
        exact h2 j k u w g1 g2 o1 o2 q
/-- a slot's own list, as the heap has it -/
theorem Fits.own (f : Fits c F δ σ H t) {i : Nat} {ds : List D} (e : δ[i]? = some (.ow ds)) : ∃ a vs, σ[i]? = some (some (.ref a)) ∧ F a = none ∧ c.H0 a = none ∧ a ∉ c.hs ∧ H a = some (.lst vs) ∧ Rps c.K F vs ds ∧
    ∀ (es : List D) (ws : List V), Rps c.K F ws es → Fits c F (δ.set i (.ow es)) σ (upd H a (.lst ws)) t := by
  obtain ⟨A, h1, h2⟩ := f.sl
  have l := (List.getElem?_eq_some_iff.mp e).1
  rw [f.len] at l
  have ex := List.getElem?_eq_getElem l
  obtain ⟨q1, q2, q3, vs, q4, q5⟩ := h1 i _ _ e ex
  have nh : A i ∉ c.hs := fun z => (f.dn.hd _ z).2 q3
  refine ⟨A i, vs, by rw [ex, q1], q2, q3, nh, q4, q5, fun es ws r => ?_⟩
  have d : Done c F (upd H (A i) (.lst ws)) t := by
    refine ⟨⟨f.dn.gr.sF, fun b o h => ?_, f.dn.gr.nw, fun b h => ?_⟩, fun b o h => ?_, f.dn.hd, fun L l cs z => ?_, f.dn.mh⟩
    · obtain ⟨b1, b2⟩ := of_hid h
      have ne : b ≠ A i := fun z => by rw [z, q3] at b2; cases b2
      refine hid_of b1 ?_
      rw [upd_ne ne]
      exact (of_hid (f.dn.gr.sH b o h)).2
    · by_cases z : b = A i
      · rw [z, upd_same] at h; cases h
      · rw [upd_ne z] at h; exact f.dn.gr.al b h
    · rw [upd_ne (fun z => by rw [z, q2] at h; cases h)]
      exact f.dn.fh b o h
    · have la := f.dn.mo L l cs z
      obtain ⟨m1, m2⟩ := f.dn.mh L l cs z
      exact la.upd (fun y => nh (y ▸ m1)) (fun y => m2 (y ▸ q3))
  refine ⟨d, by rw [List.length_set]; exact f.len, A, fun j u x e1 e2 => ?_, fun j k u w e1 e2 o1 o2 q => ?_⟩
  · rw [List.getElem?_set] at e1
    by_cases z : i = j
    · subst z
      rw [if_pos rfl] at e1
      split at e1
      · cases e1
        rw [ex] at e2
        cases e2
        exact ⟨q1, q2, q3, ws, upd_same, r⟩
      · cases e1
    · rw [if_neg z] at e1
      have q := h1 j u x e1 e2
      cases u with
      | un => trivial
      | fr d => exact q
      | ow es2 =>
        obtain ⟨r1, r2, r3, vs2, r4, r5⟩ := q
        exact ⟨r1, r2, r3, vs2, by rw [upd_ne (fun y => z (h2 j i _ _ e1 e rfl rfl y).symm)]; exact r4, r5⟩
      | oi C fs =>
        obtain ⟨r1, r2, r3, dx, gs, r4, r5⟩ := q
        exact ⟨r1, r2, r3, dx, gs, by
          have ne : A j ≠ A i := fun y => nh (by rw [← y]; exact r2)
          rw [upd_ne ne]; exact r4, r5⟩
  · have g : ∀ {j : Nat} {u : Sl}, (δ.set i (.ow es))[j]? = some u → isOw u = true → ∃ u0, δ[j]? = some u0 ∧ isOw u0 = true := fun {j u} e1 o1 => by
      rw [List.getElem?_set] at e1
      split at e1
      · rename_i z
        exact ⟨_, z ▸ e, rfl⟩
      · exact ⟨_, e1, o1⟩
    obtain ⟨_, g1, g2⟩ := g e1 o1
    obtain ⟨_, g3, g4⟩ := g e2 o2
    exact h2 j k _ _ g1 g3 g2 g4 q
end
end VL

set_option linter.all false
set_option maxRecDepth 100000
set_option maxHeartbeats 4000000
namespace VL
open PySem PySem.Spec PyProof.Rows L2 Nv
/-! # readings over trees -/
abbrev UE := Nat → List Sl → (Nat → D → Bool → Prop) → Prop
abbrev UT := Nat → List Sl → (Nat → Bool → Prop) → Prop
abbrev UA := Nat → List Sl → (Nat → List D → Bool → Prop) → Prop
/-- g: whether all of the tree is frozen; otherwise it may have a slot's own list -/
def Rpg (c : Ct) (g : Bool) (F H : Hp) (v : V) (d : D) : Prop := match g with
  | true => Rp c.K F v d
  | false => Rp c.K (hid c.hs H) v d
def Rpgs (c : Ct) (g : Bool) (F H : Hp) (vs : List V) (ds : List D) : Prop := match g with
  | true => Rps c.K F vs ds
  | false => Rps c.K (hid c.hs H) vs ds
def tV (c : Ct) (u : UE) : TE := fun σ H Q => ∃ F δ t P, Fits c F δ σ H t ∧ u t δ P ∧ ∀ v F' H' t' d g, Fits c F' δ σ H' t' → Gro c.hs F H F' H' → Rpg c g F' H' v d → P t' d g → Q v H'
def tT (c : Ct) (u : UT) : TT := fun σ H Q => ∃ F δ t P, Fits c F δ σ H t ∧ u t δ P ∧ ∀ b F' H' t', Fits c F' δ σ H' t' → Gro c.hs F H F' H' → P t' b → Q b H'
def tAr (c : Ct) (u : UA) : TA := fun σ H Q => ∃ F δ t P, Fits c F δ σ H t ∧ u t δ P ∧ ∀ vs F' H' t' ds g, Fits c F' δ σ H' t' → Gro c.hs F H F' H' → Rpgs c g F' H' vs ds → P t' ds g → Q vs H'
/-- no slot's own object stands at a -/
def NotOwn (δ : List Sl) (σ : L2.St) (a : Addr) : Prop := ∀ (i : Nat) (s : Sl), δ[i]? = some s → isOw s = true → σ[i]? ≠ some (some (V.ref a))
/-- a new list, not frozen, no slot's; its items frozen -/
def tN (c : Ct) (u : UE) : TE := fun σ H Q => ∃ F δ t P, Fits c F δ σ H t ∧ u t δ P ∧ ∀ p vs ds F' H' t' g, Fits c F' δ σ H' t' → Gro c.hs F H F' H' → H p = none → F' p = none → NotOwn δ σ p → H' p = some (.lst vs) → Rps c.K F' vs ds → P t' (.lst ds) g → Q (.ref p) H'
section
variable {c : Ct} {F F' H H' : Hp} {δ : List Sl} {σ : L2.St} {t t' : Nat} {g : Bool}
theorem Rpg.up {v : V} {d : D} (r : Rpg c g F H v d) (q : Gro c.hs F H F' H') : Rpg c g F' H' v d := by
  cases g with
  | true => exact Rp.up q.sF r
  | false => exact Rp.up q.sH r
theorem Rpgs.up {v : List V} {d : List D} (r : Rpgs c g F H v d) (q : Gro c.hs F H F' H') : Rpgs c g F' H' v d := by
  cases g with
  | true => exact Rps.up q.sF r
  | false => exact Rps.up q.sH r
theorem hid_same (hs : List Addr) (H : Hp) : Same (hid hs H) H := fun _ _ h => (of_hid h).2
/-- in the whole heap -/
theorem Rpg.all {v : V} {d : D} (f : Fits c F δ σ H t) (r : Rpg c g F H v d) : Rp c.K H v d := by
  cases g with
  | true => exact Rp.up f.dn.fh r
  | false => exact Rp.up (hid_same _ _) r
theorem Rpg.hidden {v : V} {d : D} (f : Fits c F δ σ H t) (r : Rpg c g F H v d) : Rp c.K (hid c.hs H) v d := by
  cases g with
  | true => exact Rp.up f.dn.hidF r
  | false => exact r
theorem Rpgs.all {v : List V} {d : List D} (f : Fits c F δ σ H t) (r : Rpgs c g F H v d) : Rps c.K H v d := by
  cases g with
  | true => exact Rps.up f.dn.fh r
  | false => exact Rps.up (hid_same _ _) r
theorem Rpgs.nil : Rpgs c g F H [] [] := by cases g <;> exact Rps.nil
theorem Rpgs.cons {v : V} {vs : List V} {d : D} {ds : List D} {g1 g2 : Bool} (f : Fits c F δ σ H t) (r : Rpg c g1 F H v d) (rs : Rpgs c g2 F H vs ds) : Rpgs c (g1 && g2) F H (v :: vs) (d :: ds) := by
  cases g1 with
  | true =>
    cases g2 with
    | true => exact Rps.cons r rs
    | false => exact Rps.cons (Rpg.hidden f (g := true) r) rs
  | false =>
    cases g2 with
    | true => exact Rps.cons r (Rps.up f.dn.hidF rs)
    | false => exact Rps.cons r rs
/-- a flat value is frozen -/
def isFlat : D → Bool
  | .non | .bl _ | .int _ | .str _ | .adr _ | .ty _ => true
  | _ => false
theorem Rp.flat {K : PySem.W.Frag} {G G' : Hp} {v : V} {d : D} (h : isFlat d = true) (r : Rp K G v d) : Rp K G' v d := by
  cases r with
  | non => exact .non
  | bl b => exact .bl b
  | int i => exact .int i
  | str x => exact .str x
  | adr a => exact .adr a
  | ty n => exact .ty n
  | lst _ _ => cases h
  | tup _ _ => cases h
  | ins _ _ => cases h
/-- an item of a list or a tuple: that of a borrowed list is as frozen as what it stands in; a slot's own list has frozen items -/
def rowD : D → Option (List D)
  | .lst ds => some ds
  | .tup ds => some ds
  | _ => none
theorem Rp.row {K : PySem.W.Frag} {G : Hp} {v : V} {d : D} {ds : List D} (r : Rp K G v d) (e : rowD d = some ds) : ∃ a xs, v = .ref a ∧ (G a = some (.lst xs) ∨ SqT K G a xs) ∧ Rps K G xs ds := by
  cases r with
  | lst h r => cases e; exact ⟨_, _, rfl, .inl h, r⟩
  | tup h r => cases e; exact ⟨_, _, rfl, .inr h.sq, r⟩
  | _ => cases e

theorem pe_wk {X : Cx} {e : Expr} {tt : TE} {u : UE} (h : PE X e tt) (w : ∀ σ H Q, tV c u σ H Q → tt σ H Q) : PE X e (tV c u) := ⟨fun pins s σ H Q I q => h.run pins s σ H Q I (w σ H Q q)⟩
theorem pt_wk {X : Cx} {e : Expr} {tt : TT} {u : UT} (h : PT X e tt) (w : ∀ σ H Q, tT c u σ H Q → tt σ H Q) : PT X e (tT c u) := ⟨fun pins s σ H Q I q => h.run pins s σ H Q I (w σ H Q q)⟩
theorem pw_wk {X : Cx} {e : Expr} {tt : TT} {u : UT} (h : PW X e tt) (w : ∀ σ H Q, tT c u σ H Q → tt σ H Q) : PW X e (tT c u) := ⟨fun wh pins s σ H Q I q => h.run wh pins s σ H Q I (w σ H Q q)⟩
theorem pa_wk {X : Cx} {e : List Expr} {tt : TA} {u : UA} (h : PA X e tt) (w : ∀ σ H Q, tAr c u σ H Q → tt σ H Q) : PA X e (tAr c u) := ⟨fun pos pins s σ H Q I q => h.run pos pins s σ H Q I (w σ H Q q)⟩
theorem pk_wk {X : Cx} {e : List Keyword} {tt : TA} {u : UA} (h : PK X e tt) (w : ∀ σ H Q, tAr c u σ H Q → tt σ H Q) : PK X e (tAr c u) := ⟨fun pos pins s σ H Q I q => h.run pos pins s σ H Q I (w σ H Q q)⟩
theorem pn_wk {X : Cx} {e : Expr} {tt : TE} {u : UE} (h : PE X e tt) (w : ∀ σ H Q, tN c u σ H Q → tt σ H Q) : PE X e (tN c u) := ⟨fun pins s σ H Q I q => h.run pins s σ H Q I (w σ H Q q)⟩
theorem Fits.notOwn (f : Fits c F δ σ H t) {a : Addr} (n : H a = none) : NotOwn δ σ a := by
  intro i s e o z
  obtain ⟨A, h1, _⟩ := f.sl
  have q := h1 i s _ e z
  cases s with
  | un => cases o
  | fr d => cases o
  | ow ds =>
    obtain ⟨e1, _, _, vs, e2, _⟩ := q
    cases e1
    rw [n] at e2
    cases e2
  | oi C fs =>
    obtain ⟨e1, _, _, dx, gs, e2, _⟩ := q
    cases e1
    rw [n] at e2
    cases e2
/-- a list just laid, as tN wants it -/
theorem kN {Q : VK} {P : Nat → D → Bool → Prop} {F0 H0 : Hp} (k : ∀ p vs ds F' H' t' g, Fits c F' δ σ H' t' → Gro c.hs F0 H0 F' H' → H0 p = none → F' p = none → NotOwn δ σ p → H' p = some (.lst vs) → Rps c.K F' vs ds → P t' (.lst ds) g → Q (.ref p) H') :
    ∀ p vs ds F' H1 H' t' g, Fits c F' δ σ H1 t' → Gro c.hs F0 H0 F' H1 → H1 p = none → H' p = some (.lst vs) → Same H1 H' → Rps c.K F' vs ds → P t' (.lst ds) g → Q (.ref p) H' := fun p vs ds F' H1 H' t' g f gr np e s r q =>
  k p vs ds F' H' t' g (f.newH s) (gr.trans (Gro.same s)) (gr.al p np) (f.dn.fresh np).1 (f.notOwn np) e r q
/-- such a list is frozen -/
theorem Fits.freezeN (f : Fits c F δ σ H t) {p : Addr} {vs : List V} (fp : F p = none) (hp : c.H0 p = none) (no : NotOwn δ σ p) (e : H p = some (.lst vs)) : Fits c (upd F p (.lst vs)) δ σ H t := by
  have nh : p ∉ c.hs := fun z => (f.dn.hd _ z).2 hp
  have sF : Same F (upd F p (.lst vs)) := Same.neu fp
  obtain ⟨A, h1, h2⟩ := f.sl
  refine ⟨⟨⟨f.dn.gr.sF.trans sF, f.dn.gr.sH, fun b o h => ?_, f.dn.gr.al⟩, fun b o h => ?_, fun b hb => ⟨?_, (f.dn.hd b hb).2⟩, f.dn.mo, f.dn.mh⟩, f.len, A, fun j u x e1 e2 => ?_, h2⟩
  · by_cases z : b = p
    · rw [z]; exact .inr hp
    · rw [upd_ne z] at h; exact f.dn.gr.nw b o h
  · by_cases z : b = p
    · rw [z, upd_same] at h; cases h; rw [z]; exact e
    · rw [upd_ne z] at h; exact f.dn.fh b o h
  · have ne : b ≠ p := fun z => nh (by rw [← z]; exact hb)
    rw [upd_ne ne]; exact (f.dn.hd b hb).1
  · have q := h1 j u x e1 e2
    cases u with
    | un => trivial
    | fr d => obtain ⟨v, a, b⟩ := q; exact ⟨v, a, b.up sF⟩
    | ow es =>
      obtain ⟨r1, r2, r3, ws, r4, r5⟩ := q
      have ne : A j ≠ p := fun y => no j _ e1 rfl (by rw [e2, r1, y])
      exact ⟨r1, by rw [upd_ne ne]; exact r2, r3, ws, r4, r5.up sF⟩
    | oi C fs =>
      obtain ⟨r1, r2, r3, dx, gs, r4, r5⟩ := q
      exact ⟨r1, r2, r3, dx, gs, r4, r5.up sF⟩
/-- such a list becomes a slot's own -/
theorem Fits.setN (f : Fits c F δ σ H t) (i : Nat) {p : Addr} {vs : List V} {ds : List D} (fp : F p = none) (hp : c.H0 p = none) (no : NotOwn δ σ p) (e : H p = some (.lst vs)) (r : Rps c.K F vs ds) : Fits c F (δ.set i (.ow ds)) (σ.set i (some (.ref p))) H t := by
  have nh : p ∉ c.hs := fun z => (f.dn.hd _ z).2 hp
  obtain ⟨A, h1, h2⟩ := f.sl
  have len : ∀ {j : Nat} {u : Sl}, δ[j]? = some u → ∃ x, σ[j]? = some x := fun {j u} e0 => by
    have l := (List.getElem?_eq_some_iff.mp e0).1
    rw [f.len] at l
    exact ⟨_, List.getElem?_eq_getElem l⟩
  have apart : ∀ {j : Nat} {u : Sl}, δ[j]? = some u → isOw u = true → A j ≠ p := fun {j u} e1 o1 y => by
    obtain ⟨x, ex⟩ := len e1
    have q := h1 j u x e1 ex
    cases u with
    | un => cases o1
    | fr d => cases o1
    | ow es => exact no j _ e1 rfl (by rw [ex, q.1, y])
    | oi C fs => exact no j _ e1 rfl (by rw [ex, q.1, y])
  refine ⟨f.dn, by rw [List.length_set, List.length_set]; exact f.len, fun j => if j = i then p else A j, fun j u x e1 e2 => ?_, fun j k u w e1 e2 o1 o2 q => ?_⟩
  · rw [List.getElem?_set] at e1 e2
    by_cases z : i = j
    · subst z
      rw [if_pos rfl] at e1 e2
      split at e1
      · cases e1
        split at e2
        · cases e2
          show SlOk c F H (if i = i then p else A i) _ _
          rw [if_pos rfl]
          exact ⟨rfl, fp, hp, vs, e, r⟩
        · cases e2
      · cases e1
    · rw [if_neg z] at e1 e2
      show SlOk c F H (if j = i then p else A j) _ _
      rw [if_neg (fun y => z y.symm)]
      exact h1 j u x e1 e2
  · have old : ∀ {j : Nat} {u : Sl}, i ≠ j → (δ.set i (.ow ds))[j]? = some u → isOw u = true → δ[j]? = some u ∧ A j ≠ p := fun {j u} z e1 o1 => by
      rw [List.getElem?_set, if_neg z] at e1
      exact ⟨e1, apart e1 o1⟩
    show j = k
    have q : (if j = i then p else A j) = (if k = i then p else A k) := q
    by_cases zj : i = j
    · by_cases zk : i = k
      · rw [← zj, ← zk]
      · obtain ⟨_, n⟩ := old zk e2 o2
        rw [if_pos zj.symm, if_neg (fun y => zk y.symm)] at q
        exact absurd q.symm n
    · obtain ⟨g1, n1⟩ := old zj e1 o1
      by_cases zk : i = k
      · rw [if_neg (fun y => zj y.symm), if_pos zk.symm] at q
        exact absurd q n1
      · obtain ⟨g2, n2⟩ := old zk e2 o2
        rw [if_neg (fun y => zj y.symm), if_neg (fun y => zk y.symm)] at q
        exact h2 j k u w g1 g2 o1 o2 q
/-! ### names, constants -/
def uVar (i : Nat) : UE := fun t δ P => match δ[i]? with
  | some (.fr d) => P t d true
  | some (.ow ds) => P t (.lst ds) false
  | _ => False
def uK (d : D) : UE := fun t _ P => P t d true
theorem v_var {X : Cx} {e : Expr} {i : Nat} (h : PE X e (tVar i)) : PE X e (tV c (uVar i)) := pe_wk h fun σ H Q ⟨F, δ, t, P, f, u, k⟩ => by
  unfold uVar at u
  cases e : δ[i]? with
  | none => rw [e] at u; exact u.elim
  | some s =>
    rw [e] at u
    have l := (List.getElem?_eq_some_iff.mp e).1
    rw [f.len] at l
    have ex := List.getElem?_eq_getElem l
    cases s with
    | un => exact u.elim
    | oi C fs => exact u.elim
    | fr d =>
      obtain ⟨A, h1, _⟩ := f.sl
      obtain ⟨v, e1, r⟩ := h1 i _ _ e ex
      exact ⟨v, by rw [ex, e1], k v F H t d true f (Gro.refl _ _ _) r u⟩
    | ow ds =>
      obtain ⟨a, vs, e1, e2, e3, e4, e5, e6, _⟩ := f.own e
      exact ⟨.ref a, e1, k _ F H t (.lst ds) false f (Gro.refl _ _ _) (.lst (hid_of e4 e5) (Rps.up f.dn.hidF e6)) u⟩
theorem v_K {X : Cx} {e : Expr} {v : V} {d : D} (h : PE X e (tC v)) (r : ∀ F, Rp c.K F v d) : PE X e (tV c (uK d)) := pe_wk h fun σ H Q ⟨F, δ, t, P, f, u, k⟩ =>
  k v F H t d true f (Gro.refl _ _ _) (r F) u
theorem v_int {X : Cx} {e : Expr} {i : Int} (h : PE X e (tC (.int i))) : PE X e (tV c (uK (.int i))) := v_K h fun _ => .int i
theorem v_bl {X : Cx} {e : Expr} {i : Bool} (h : PE X e (tC (.bl i))) : PE X e (tV c (uK (.bl i))) := v_K h fun _ => .bl i
theorem v_str {X : Cx} {e : Expr} {i : Str} (h : PE X e (tC (.str i))) : PE X e (tV c (uK (.str i))) := v_K h fun _ => .str i
theorem v_non {X : Cx} {e : Expr} (h : PE X e (tC .non)) : PE X e (tV c (uK .non)) := v_K h fun _ => .non
theorem v_ty {X : Cx} {e : Expr} {n : String} (h : PE X e (tC (.ty n))) : PE X e (tV c (uK (.ty n))) := v_K h fun _ => .ty n
/-! ### two values in a row -/
def u2 (w : Nat → D → Bool → D → Bool → (Nat → D → Bool → Prop) → Prop) (ua ub : UE) : UE := fun t δ P => ua t δ fun t1 d g => ub t1 δ fun t2 e h => w t2 d g e h P
/-- an operation's rule over trees -/
def W2 (c : Ct) (r : R2) (w : Nat → D → Bool → D → Bool → (Nat → D → Bool → Prop) → Prop) : Prop := ∀ x y F H d e gx gy δ σ t Q P, Fits c F δ σ H t → Rpg c gx F H x d → Rpg c gy F H y e → w t d gx e gy P →
  (∀ v F' H' t' d g, Fits c F' δ σ H' t' → Gro c.hs F H F' H' → Rpg c g F' H' v d → P t' d g → Q v H') → r x y H Q
theorem two {ua ub : UE} {Q : VK} {r : R2} {w : Nat → D → Bool → D → Bool → (Nat → D → Bool → Prop) → Prop} (hr : W2 c r w) (h : tV c (u2 w ua ub) σ H Q) : tV c ua σ H fun x H1 => tV c ub σ H1 fun y H2 => r x y H2 Q := by
  obtain ⟨F, δ, t, P, f, u, k⟩ := h
  refine ⟨F, δ, t, _, f, u, fun x F1 H1 t1 d g f1 g1 r1 u1 => ⟨F1, δ, t1, _, f1, u1, fun y F2 H2 t2 e h f2 g2 r2 u2 => ?_⟩⟩
  exact hr x y F2 H2 d e g h δ σ t2 Q P f2 (r1.up g2) r2 u2 fun v F' H' t' d g f' g' r' p => k v F' H' t' d g f' ((g1.trans g2).trans g') r' p
theorem v_op {X : Cx} {a b : Expr} {op : Operator} {pos : Pos} {r : R2} {w : Nat → D → Bool → D → Bool → (Nat → D → Bool → Prop) → Prop} {ua ub : UE} (ho : OpR X (binaryOp op) r) (hr : W2 c r w) (ha : PE X a (tV c ua)) (hb : PE X b (tV c ub)) : PE X (.BinOp a op b pos) (tV c (u2 w ua ub)) :=
  pe_wk (pe_op ho ha hb) fun _ _ _ h => two hr h
theorem v_cmp {X : Cx} {a b : Expr} {op : CmpOp} {pos : Pos} {r : R2} {w : Nat → D → Bool → D → Bool → (Nat → D → Bool → Prop) → Prop} {ua ub : UE} (ho : OpR X (compareOp op) r) (hr : W2 c r w) (ha : PE X a (tV c ua)) (hb : PE X b (tV c ub)) (hm : behindInMarks op b = false) : PE X (.Compare a [op] [b] pos) (tV c (u2 w ua ub)) :=
  pe_wk (pe_cmpR ho ha hb hm) fun _ _ _ h => two hr h
theorem v_ix {X : Cx} {a b : Expr} {pos : Pos} {r : R2} {w : Nat → D → Bool → D → Bool → (Nat → D → Bool → Prop) → Prop} {ua ub : UE} (ho : IxR X r) (hr : W2 c r w) (ha : PE X a (tV c ua)) (hb : PE X b (tV c ub)) (hs : PlainIx b) : PE X (.Subscript a b pos) (tV c (u2 w ua ub)) :=
  pe_wk (pe_ix ho ha hb hs) fun _ _ _ h => two hr h
/-- ints in -/
def wI (C : Int → Int → Prop) (f : Int → Int → D) : Nat → D → Bool → D → Bool → (Nat → D → Bool → Prop) → Prop := fun t d _ e _ P => match d, e with
  | .int i, .int j => C i j ∧ P t (f i j) true
  | _, _ => False
theorem Rpg.intE {v : V} {i : Int} (r : Rpg c g F H v (.int i)) : v = .int i := by
  cases g <;> (cases (show Rp c.K _ v (.int i) from r); rfl)
theorem w_I {C : Int → Int → Prop} {f : Int → Int → V} {fd : Int → Int → D} (hf : ∀ i j G, Rp c.K G (f i j) (fd i j)) : W2 c (rI C f) (wI C fd) := by
  intro x y F H d e gx gy δ σ t Q P ft rx ry w k
  unfold wI at w
  split at w
  · rename_i i j
    rw [rx.intE, ry.intE]
    exact ⟨i, j, rfl, rfl, w.1, k _ F H t _ true ft (Gro.refl _ _ _) (hf i j F) w.2⟩
  · exact w.elim
theorem w_I0 {f : Int → Int → V} {fd : Int → Int → D} (hf : ∀ i j G, Rp c.K G (f i j) (fd i j)) : W2 c (rI0 f) (wI (fun _ _ => True) fd) := by
  intro x y F H d e gx gy δ σ t Q P ft rx ry w k
  unfold wI at w
  split at w
  · rename_i i j
    rw [rx.intE, ry.intE]
    exact ⟨i, j, rfl, rfl, k _ F H t _ true ft (Gro.refl _ _ _) (hf i j F) w.2⟩
  · exact w.elim
/-! ### data: what is compared, sorted, put into sets -/
mutual
def D.data : D → PyData
  | .non => .none
  | .bl b => .bool b
  | .int i => .int i
  | .str x => .str x
  | .lst ds => .list (D.datas ds)
  | .tup ds => .tuple (D.datas ds)
  | .ins _ _ => .none
  | .adr _ => .none
  | .ty _ => .none
def D.datas : List D → List PyData
  | [] => []
  | d :: ds => d.data :: D.datas ds
end
mutual
/-- data of nesting up to n, no text beyond what is let -/
def D.shp : Nat → D → Bool
  | _, .non => true
  | _, .bl _ => true
  | _, .int _ => true
  | _, .str x => PyData.canLay0 (.str x)
  | n + 1, .lst ds => D.shps n ds
  | n + 1, .tup ds => D.shps n ds
  | _, _ => false
def D.shps : Nat → List D → Bool
  | _, [] => true
  | n, d :: ds => D.shp n d && D.shps n ds
end
theorem shps_all {n : Nat} : ∀ ds : List D, D.shps n ds = ds.all (D.shp n)
  | [] => by simp [D.shps]
  | d :: ds => by simp [D.shps, shps_all ds]
theorem datas_map : ∀ ds : List D, D.datas ds = ds.map D.data
  | [] => by simp [D.datas]
  | d :: ds => by simp [D.datas, datas_map ds]
mutual
theorem Rp.dp {K : PySem.W.Frag} {G : Hp} : ∀ {n : Nat} {d : D} {v : V}, Rp K G v d → D.shp n d = true → Dp K G v d.data
  | _, .non, _, r, _ => by cases r; exact .non
  | _, .bl b, _, r, _ => by cases r; exact .bl b
  | _, .int b, _, r, _ => by cases r; exact .int b
  | _, .str b, _, r, _ => by cases r; exact .str b
  | n + 1, .lst ds, _, r, s => by
    cases r with
    | lst h r => exact .lst (SqL.of h) (Rps.dp r (by simpa only [D.shp] using s))
  | n + 1, .tup ds, _, r, s => by
    cases r with
    | tup h r => exact .tup h.sq (Rps.dp r (by simpa only [D.shp] using s))
  | 0, .lst _, _, _, s => by simp [D.shp] at s
  | 0, .tup _, _, _, s => by simp [D.shp] at s
  | _, .ins _ _, _, _, s => by simp [D.shp] at s
  | _, .adr _, _, _, s => by simp [D.shp] at s
  | _, .ty _, _, _, s => by simp [D.shp] at s
theorem Rps.dp {K : PySem.W.Frag} {G : Hp} : ∀ {n : Nat} {ds : List D} {vs : List V}, Rps K G vs ds → D.shps n ds = true → DpAll K G vs (D.datas ds)
  | _, [], _, r, _ => by cases r; exact .nil
  | n, d :: ds, _, r, s => by
    have s' : D.shp n d = true ∧ D.shps n ds = true := by simpa only [D.shps, Bool.and_eq_true] using s
    cases r with
    | cons h t => exact .cons (Rp.dp h s'.1) (Rps.dp t s'.2)
end
mutual
theorem shp_shaped : ∀ {n : Nat} {d : D}, D.shp n d = true → d.data.canLay0 = true ∧ d.data.depth ≤ n
  | _, .non, _ => by simp [D.data, PyData.canLay0, PyData.depth]
  | _, .bl b, _ => by simp [D.data, PyData.canLay0, PyData.depth]
  | _, .int b, _ => by simp [D.data, PyData.canLay0, PyData.depth]
  | _, .str b, s => by
    simp only [D.shp] at s
    exact ⟨by simpa only [D.data] using s, by simp [D.data, PyData.depth]⟩
  | n + 1, .lst ds, s => by
    have ⟨h1, h2⟩ := shps_shaped (n := n) (ds := ds) (by simpa only [D.shp] using s)
    exact ⟨by simp only [D.data, PyData.canLay0]; exact h1, by simp only [D.data, PyData.depth]; omega⟩
  | n + 1, .tup ds, s => by
    have ⟨h1, h2⟩ := shps_shaped (n := n) (ds := ds) (by simpa only [D.shp] using s)
    exact ⟨by simp only [D.data, PyData.canLay0]; exact h1, by simp only [D.data, PyData.depth]; omega⟩
  | 0, .lst _, s => by simp [D.shp] at s
  | 0, .tup _, s => by simp [D.shp] at s
  | _, .ins _ _, s => by simp [D.shp] at s
  | _, .adr _, s => by simp [D.shp] at s
  | _, .ty _, s => by simp [D.shp] at s
theorem shps_shaped : ∀ {n : Nat} {ds : List D}, D.shps n ds = true → PyData.canLayAll0 (D.datas ds) = true ∧ PyData.depthAll (D.datas ds) ≤ n
  | _, [], _ => by simp [D.datas, PyData.canLayAll0, PyData.depthAll]
  | n, d :: ds, s => by
    have s' : D.shp n d = true ∧ D.shps n ds = true := by simpa only [D.shps, Bool.and_eq_true] using s
    have ⟨h1, h2⟩ := shp_shaped s'.1
    have ⟨h3, h4⟩ := shps_shaped s'.2
    exact ⟨by simp only [D.datas, PyData.canLayAll0, h1, h3, Bool.and_self], by simp only [D.datas, PyData.depthAll]; omega⟩
end
theorem shp_ok {d : D} (h : D.shp 60 d = true) : SeqAt.shaped d.data = true := by
  obtain ⟨h1, h2⟩ := shp_shaped h
  unfold SeqAt.shaped
  rw [h1, Bool.true_and]
  exact decide_eq_true (by omega)
/-- == -/
def D.eqv (d e : D) : Bool := PyData.eqv d.data e.data
def wEq (n : Bool) : Nat → D → Bool → D → Bool → (Nat → D → Bool → Prop) → Prop := fun t d _ e _ P => D.shp 60 d = true ∧ D.shp 60 e = true ∧ P t (.bl (n ^^ D.eqv d e)) true
theorem w_eq : W2 c (rEqD c.K) (wEq false) := fun x y F H d e gx gy δ σ t Q P ft rx ry w k =>
  ⟨d.data, e.data, (rx.all ft).dp w.1, (ry.all ft).dp w.2.1, shp_ok w.1, shp_ok w.2.1, k _ F H t _ true ft (Gro.refl _ _ _) (by rw [show PyData.eqv d.data e.data = (false ^^ D.eqv d e) from by simp [D.eqv]]; exact .bl _) w.2.2⟩
theorem w_ne : W2 c (rNeD c.K) (wEq true) := fun x y F H d e gx gy δ σ t Q P ft rx ry w k =>
  ⟨d.data, e.data, (rx.all ft).dp w.1, (ry.all ft).dp w.2.1, shp_ok w.1, shp_ok w.2.1, k _ F H t _ true ft (Gro.refl _ _ _) (by rw [show (!PyData.eqv d.data e.data) = (true ^^ D.eqv d e) from by simp [D.eqv]]; exact .bl _) w.2.2⟩
/-- is None -/
def isNonD : D → Bool
  | .non => true
  | _ => false
theorem Rp.isNon {K : PySem.W.Frag} {G : Hp} {v : V} {d : D} (r : Rp K G v d) : decide (v = .non) = isNonD d := by cases r <;> simp [isNonD]
def wIsN (n : Bool) : Nat → D → Bool → D → Bool → (Nat → D → Bool → Prop) → Prop := fun t d _ e _ P => isNonD e = true ∧ P t (.bl (n ^^ isNonD d)) true
theorem w_isN : W2 c (fun x y H Q => y = .non ∧ Q (.bl (decide (x = .non))) H) (wIsN false) := fun x y F H d e gx gy δ σ t Q P ft rx ry w k => by
  have e1 := (rx.all ft).isNon
  have e2 := (ry.all ft).isNon
  rw [w.1] at e2
  exact ⟨of_decide_eq_true e2, k _ F H t _ true ft (Gro.refl _ _ _) (by rw [e1]; cases isNonD d <;> exact .bl _) w.2⟩
theorem w_notN : W2 c (fun x y H Q => y = .non ∧ Q (.bl (!decide (x = .non))) H) (wIsN true) := fun x y F H d e gx gy δ σ t Q P ft rx ry w k => by
  have e1 := (rx.all ft).isNon
  have e2 := (ry.all ft).isNon
  rw [w.1] at e2
  exact ⟨of_decide_eq_true e2, k _ F H t _ true ft (Gro.refl _ _ _) (by rw [e1]; cases isNonD d <;> exact .bl _) w.2⟩
/-! ### items -/
def wIx : Nat → D → Bool → D → Bool → (Nat → D → Bool → Prop) → Prop := fun t d g e _ P => match rowD d, e with
  | some ds, .int i => ∃ x, atI ds i = some x ∧ P t x (g || isFlat x)
  | _, _ => False
theorem atI_rep {K : PySem.W.Frag} {G : Hp} {vs : List V} {ds : List D} (r : Rps K G vs ds) {i : Int} {x : D} (e : atI ds i = some x) : ∃ v, atI vs i = some v ∧ Rp K G v x := by
  unfold atI at e ⊢
  rw [r.length]
  cases h : ixN ds.length i with
  | none => rw [h] at e; cases e
  | some j =>
    rw [h] at e
    obtain ⟨v, h1, h2⟩ := r.getD (show ds[j]? = some x from e)
    exact ⟨v, h1, h2⟩
theorem w_ix : W2 c (rIx c.K) wIx := fun x y F H d e gx gy δ σ t Q P ft rx ry w k => by
  unfold wIx at w
  split at w
  · rename_i ds i e1
    obtain ⟨z, e2, p⟩ := w
    rw [ry.intE]
    cases gx with
    | true =>
      obtain ⟨a, xs, rfl, h, r⟩ := Rp.row (show Rp c.K F x d from rx) e1
      obtain ⟨v, e3, r3⟩ := atI_rep r e2
      have q := k v F H t z true ft (Gro.refl _ _ _) r3 p
      rcases h with h | h
      · exact .inl ⟨a, xs, i, v, rfl, rfl, SqL.of (ft.dn.fh _ _ h), e3, q⟩
      · exact .inr (.inl ⟨a, xs, i, v, rfl, rfl, same_t ft.dn.fh h, e3, q⟩)
    | false =>
      obtain ⟨a, xs, rfl, h, r⟩ := Rp.row (show Rp c.K (hid c.hs H) x d from rx) e1
      obtain ⟨v, e3, r3⟩ := atI_rep r e2
      have q : Q v H := by
        cases fl : isFlat z with
        | true =>
          rw [fl] at p
          exact k v F H t z true ft (Gro.refl _ _ _) (r3.flat fl) p
        | false =>
          rw [fl] at p
          exact k v F H t z false ft (Gro.refl _ _ _) r3 p
      rcases h with h | h
      · exact .inl ⟨a, xs, i, v, rfl, rfl, SqL.of (hid_same _ _ _ _ h), e3, q⟩
      · exact .inr (.inl ⟨a, xs, i, v, rfl, rfl, same_t (hid_same _ _) h, e3, q⟩)
  · exact w.elim
/-- an item of a slot's own list is frozen -/
def uIxO (i : Nat) (ub : UE) : UE := fun t δ P => match δ[i]? with
  | some (.ow ds) => ub t δ fun t1 e _ => match e with
    | .int j => ∃ x, atI ds j = some x ∧ P t1 x true
    | _ => False
  | some (.fr d) => ub t δ fun t1 e h => wIx t1 d true e h P
  | _ => False
theorem v_ixO {X : Cx} {a b : Expr} {pos : Pos} {i : Nat} {ub : UE} (hK : X.K = c.K) (ha : PE X a (tVar i)) (hb : PE X b (tV c ub)) (hs : PlainIx b) : PE X (.Subscript a b pos) (tV c (uIxO i ub)) :=
  pe_wk (pe_ix (r := rIx c.K) (by rw [← hK]; exact ix_seq) ha hb hs) fun σ H Q ⟨F, δ, t, P, f, u, k⟩ => by
    unfold uIxO at u
    split at u
    · rename_i ds e
      obtain ⟨a, vs, e1, e2, e3, e4, e5, e6, _⟩ := f.own e
      refine ⟨_, e1, F, δ, t, _, f, u, fun y F2 H2 t2 e h f2 g2 r2 w => ?_⟩
      split at w
      · rename_i j
        obtain ⟨x, w1, w2⟩ := w
        rw [r2.intE]
        obtain ⟨v, e7, r7⟩ := atI_rep (Rps.up g2.sF e6) w1
        exact .inl ⟨a, vs, j, v, rfl, rfl, SqL.of (of_hid (g2.sH _ _ (hid_of e4 e5))).2, e7, k v F2 H2 t2 x true f2 g2 r7 w2⟩
      · exact w.elim
    · rename_i d e
      have l := (List.getElem?_eq_some_iff.mp e).1
      rw [f.len] at l
      have ex := List.getElem?_eq_getElem l
      obtain ⟨A, h1, _⟩ := f.sl
      obtain ⟨v, e1, r⟩ := h1 i _ _ e ex
      refine ⟨v, by rw [ex, e1], F, δ, t, _, f, u, fun y F2 H2 t2 e h f2 g2 r2 w => ?_⟩
      exact w_ix v y F2 H2 d e true h δ σ t2 Q P f2 (r.up g2.sF) r2 w fun v F' H' t' d g f' g' r' p => k v F' H' t' d g f' (g2.trans g') r' p
    · exact u.elim
/-! ### in -/
def wMem (n : Bool) : Nat → D → Bool → D → Bool → (Nat → D → Bool → Prop) → Prop := fun t d _ e _ P => match rowD e with
  | some ds => D.shp 60 d = true ∧ D.shps 59 ds = true ∧ P t (.bl (n ^^ ds.any fun z => D.eqv z d)) true
  | none => False
/-- x in a list or a tuple of data -/
def rInR (K : PySem.W.Frag) (n : Bool) : R2 := fun x y H Q => ∃ a d xs ds, y = .ref a ∧ Dp K H x d ∧ (SqL K H a xs ∨ SqT K H a xs) ∧ DpAll K H xs ds ∧ SeqAt.shaped d = true ∧ PyData.canLayAll0 ds = true ∧ PyData.depthAll ds ≤ 60 ∧ Q (.bl (n ^^ ds.any fun z => PyData.eqv z d)) H
theorem w_in {n : Bool} : W2 c (rInR c.K n) (wMem n) := fun x y F H d e gx gy δ σ t Q P ft rx ry w k => by
  unfold wMem at w
  split at w
  · rename_i ds e1
    obtain ⟨w1, w2, w3⟩ := w
    obtain ⟨a, xs, rfl, h, r⟩ := (ry.all ft).row e1
    obtain ⟨s1, s2⟩ := shps_shaped w2
    refine ⟨a, d.data, xs, D.datas ds, rfl, (rx.all ft).dp w1, h.imp SqL.of id, r.dp w2, shp_ok w1, s1, by omega, k _ F H t _ true ft (Gro.refl _ _ _) ?_ w3⟩
    have e2 : ((D.datas ds).any fun z => PyData.eqv z d.data) = ds.any fun z => D.eqv z d := by rw [datas_map, List.any_map]; rfl
    rw [e2]
    exact .bl _
  · exact w.elim
end
end VL

set_option linter.all false
set_option maxRecDepth 100000
set_option maxHeartbeats 4000000
namespace VL
open PySem PySem.Spec PyProof.Rows L2 Nv
section
variable {c : Ct} {F F' H H' : Hp} {δ : List Sl} {σ : L2.St} {t t' : Nat} {g : Bool} {X : Cx}
/-! ### in, of data in a list or a tuple -/
theorem room61 {A : Around} {xs : List PyData} {d : PyData} (h : PyData.depthAll xs ≤ 60) (hu : A.units + 64 < cLine) : A.units + 1 + min (PyData.depthAll xs) d.depth < cLine := by
  have : min (PyData.depthAll xs) d.depth ≤ PyData.depthAll xs := Nat.min_le_left _ _
  omega
theorem op_inR (hu : X.A.units + 64 < cLine) : OpR X (compareOp .In) (rInR X.K false) := by
  intro pins s σ H x y v u Q I rx ry h
  obtain ⟨a, d, xs, ds, rfl, hd, hq, hs, sd, s1, s2, q⟩ := h
  obtain ⟨bs, r2⟩ := Dp.reads I d x v hd rx
  have q' : Q (.bl (ds.any fun z => PyData.eqv z d)) H := by simpa using q
  rcases hq with hq | hq
  · obtain ⟨as, r1⟩ := Dp.reads I (.list ds) (.ref a) u (.lst hq hs) ry
    exact SeqAt.in_list_reads r1 r2 s1 (SeqAt.canLay_of_shaped sd) (room61 s2 hu) ⟨.bl _, H, I, rfl, q'⟩
  · obtain ⟨as, r1⟩ := Dp.reads I (.tuple ds) (.ref a) u (.tup hq hs) ry
    exact SeqAt.in_tuple_reads r1 r2 s1 (SeqAt.canLay_of_shaped sd) (room61 s2 hu) ⟨.bl _, H, I, rfl, q'⟩
theorem op_ninR (hu : X.A.units + 64 < cLine) : OpR X (compareOp .NotIn) (rInR X.K true) := by
  intro pins s σ H x y v u Q I rx ry h
  obtain ⟨a, d, xs, ds, rfl, hd, hq, hs, sd, s1, s2, q⟩ := h
  obtain ⟨bs, r2⟩ := Dp.reads I d x v hd rx
  have q' : Q (.bl (!ds.any fun z => PyData.eqv z d)) H := by simpa using q
  rcases hq with hq | hq
  · obtain ⟨as, r1⟩ := Dp.reads I (.list ds) (.ref a) u (.lst hq hs) ry
    exact SeqAt.notIn_list_reads r1 r2 s1 (SeqAt.canLay_of_shaped sd) (room61 s2 hu) ⟨.bl _, H, I, rfl, q'⟩
  · obtain ⟨as, r1⟩ := Dp.reads I (.tuple ds) (.ref a) u (.tup hq hs) ry
    exact SeqAt.notIn_tuple_reads r1 r2 s1 (SeqAt.canLay_of_shaped sd) (room61 s2 hu) ⟨.bl _, H, I, rfl, q'⟩
/-! ### and, or, not; tests -/
def uAnd (ua ub : UE) : UE := fun t δ P => ua t δ fun t1 d _ => match d with
  | .bl b => (b = true → ub t1 δ P) ∧ (b = false → P t1 (.bl false) true)
  | _ => False
def uOr (ua ub : UE) : UE := fun t δ P => ua t δ fun t1 d _ => match d with
  | .bl b => (b = true → P t1 (.bl true) true) ∧ (b = false → ub t1 δ P)
  | _ => False
def uNot (ua : UE) : UE := fun t δ P => ua t δ fun t1 d _ => match d with
  | .bl b => P t1 (.bl (!b)) true
  | _ => False
theorem Rpg.blE {v : V} {b : Bool} (r : Rpg c g F H v (.bl b)) : v = .bl b := by
  cases g <;> (cases (show Rp c.K _ v (.bl b) from r); rfl)
theorem Rpg.strE {v : V} {b : Str} (r : Rpg c g F H v (.str b)) : v = .str b := by
  cases g <;> (cases (show Rp c.K _ v (.str b) from r); rfl)
theorem ifI {b : Bool} {A B : Prop} (h : (b = true → A) ∧ (b = false → B)) : if b = true then A else B := by
  cases b with
  | true => exact iteT (h.1 rfl)
  | false => exact iteF (h.2 rfl)
theorem ifM {b : Bool} {A B A' B' : Prop} (h : (b = true → A) ∧ (b = false → B)) (f : A → A') (g : B → B') : if b = true then A' else B' := ifI ⟨fun z => f (h.1 z), fun z => g (h.2 z)⟩
theorem v_one {a : Expr} {op : BoolOp} {pos : Pos} {u : UE} (h : PE X a (tV c u)) : PE X (.BoolOp op [a] pos) (tV c u) := pe_one h
theorem v_and {a b : Expr} {rest : List Expr} {pos : Pos} {ua ub : UE} (ha : PE X a (tV c ua)) (hb : PE X (.BoolOp .And (b :: rest) pos) (tV c ub)) : PE X (.BoolOp .And (a :: b :: rest) pos) (tV c (uAnd ua ub)) :=
  pe_wk (pe_and ha hb) fun σ H Q ⟨F, δ, t, P, f, u, k⟩ => ⟨F, δ, t, _, f, u, fun v F1 H1 t1 d g f1 g1 r w => by
    split at w
    · rename_i b
      exact ⟨b, r.blE, ifM w (fun w => ⟨F1, δ, t1, P, f1, w, fun v F2 H2 t2 d g f2 g2 r2 p => k v F2 H2 t2 d g f2 (g1.trans g2) r2 p⟩) fun w => k _ F1 H1 t1 _ true f1 g1 (.bl false) w⟩
    · exact w.elim⟩
theorem v_or {a b : Expr} {rest : List Expr} {pos : Pos} {ua ub : UE} (ha : PE X a (tV c ua)) (hb : PE X (.BoolOp .Or (b :: rest) pos) (tV c ub)) : PE X (.BoolOp .Or (a :: b :: rest) pos) (tV c (uOr ua ub)) :=
  pe_wk (pe_or ha hb) fun σ H Q ⟨F, δ, t, P, f, u, k⟩ => ⟨F, δ, t, _, f, u, fun v F1 H1 t1 d g f1 g1 r w => by
    split at w
    · rename_i b
      exact ⟨b, r.blE, ifM w (fun w => k _ F1 H1 t1 _ true f1 g1 (.bl true) w) fun w => ⟨F1, δ, t1, P, f1, w, fun v F2 H2 t2 d g f2 g2 r2 p => k v F2 H2 t2 d g f2 (g1.trans g2) r2 p⟩⟩
    · exact w.elim⟩
theorem v_not {a : Expr} {pos : Pos} {ua : UE} (ha : PE X a (tV c ua)) : PE X (.UnaryOp .Not a pos) (tV c (uNot ua)) :=
  pe_wk (pe_not ha) fun σ H Q ⟨F, δ, t, P, f, u, k⟩ => ⟨F, δ, t, _, f, u, fun v F1 H1 t1 d g f1 g1 r w => by
    split at w
    · rename_i b
      exact ⟨b, r.blE, k _ F1 H1 t1 _ true f1 g1 (.bl _) w⟩
    · exact w.elim⟩
/-- a value as a test -/
def uB (u : UE) : UT := fun t δ P => u t δ fun t1 d _ => match d with
  | .bl b => P t1 b
  | _ => False
theorem bT {u : UE} {Q : Bool → Hp → Prop} (h : tT c (uB u) σ H Q) : tV c u σ H fun x H' => ∃ k, x = .bl k ∧ Q k H' := by
  obtain ⟨F, δ, t, P, f, u, k⟩ := h
  refine ⟨F, δ, t, _, f, u, fun v F1 H1 t1 d g f1 g1 r w => ?_⟩
  split at w
  · rename_i b
    exact ⟨b, r.blE, k b F1 H1 t1 f1 g1 w⟩
  · exact w.elim
theorem vt_val {e : Expr} {u : UE} (h : PE X e (tV c u)) (he : ∀ whole, isTrue e X.env whole = (do let v ← whole; standAt e.pos; holding [v] (truthy v)) := by intro _; rfl) : PT X e (tT c (uB u)) := pt_wk (pt_val h he) fun _ _ _ h => bT h
theorem vt_cmp {a b : Expr} {op : CmpOp} {pos : Pos} {r : R2} {w : Nat → D → Bool → D → Bool → (Nat → D → Bool → Prop) → Prop} {ua ub : UE} (ho : OpR X (compareOp op) r) (hr : W2 c r w) (ha : PE X a (tV c ua)) (hb : PE X b (tV c ub)) (hm : behindInMarks op b = false) : PT X (.Compare a [op] [b] pos) (tT c (uB (u2 w ua ub))) :=
  pt_wk (pt_cmpR ho ha hb hm) fun σ H Q h => two (Q := fun x H' => ∃ k, x = .bl k ∧ Q k H') hr (bT h)
def uTAnd (ua ub : UT) : UT := fun t δ P => ua t δ fun t1 b => (b = true → ub t1 δ P) ∧ (b = false → P t1 false)
def uTOr (ua ub : UT) : UT := fun t δ P => ua t δ fun t1 b => (b = true → P t1 true) ∧ (b = false → ub t1 δ P)
def uTNot (ua : UT) : UT := fun t δ P => ua t δ fun t1 b => P t1 (!b)
theorem vt_and1 {a : Expr} {pos : Pos} {ua : UT} (ha : PT X a (tT c ua)) : PW X (.BoolOp .And [a] pos) (tT c ua) := pw_and1 ha
theorem vt_or1 {a : Expr} {pos : Pos} {ua : UT} (ha : PT X a (tT c ua)) : PW X (.BoolOp .Or [a] pos) (tT c ua) := pw_or1 ha
theorem vt_and {a b : Expr} {rest : List Expr} {pos : Pos} {ua ub : UT} (ha : PT X a (tT c ua)) (hb : PW X (.BoolOp .And (b :: rest) pos) (tT c ub)) : PW X (.BoolOp .And (a :: b :: rest) pos) (tT c (uTAnd ua ub)) :=
  pw_wk (pw_and ha hb) fun σ H Q ⟨F, δ, t, P, f, u, k⟩ => ⟨F, δ, t, _, f, u, fun b F1 H1 t1 f1 g1 w => ifM w
    (fun w => ⟨F1, δ, t1, P, f1, w, fun b F2 H2 t2 f2 g2 p => k b F2 H2 t2 f2 (g1.trans g2) p⟩) fun w => k false F1 H1 t1 f1 g1 w⟩
theorem vt_or {a b : Expr} {rest : List Expr} {pos : Pos} {ua ub : UT} (ha : PT X a (tT c ua)) (hb : PW X (.BoolOp .Or (b :: rest) pos) (tT c ub)) : PW X (.BoolOp .Or (a :: b :: rest) pos) (tT c (uTOr ua ub)) :=
  pw_wk (pw_or ha hb) fun σ H Q ⟨F, δ, t, P, f, u, k⟩ => ⟨F, δ, t, _, f, u, fun b F1 H1 t1 f1 g1 w => ifM w
    (fun w => k true F1 H1 t1 f1 g1 w) fun w => ⟨F1, δ, t1, P, f1, w, fun b F2 H2 t2 f2 g2 p => k b F2 H2 t2 f2 (g1.trans g2) p⟩⟩
theorem vt_not {a : Expr} {pos : Pos} {ua : UT} (ha : PT X a (tT c ua)) : PT X (.UnaryOp .Not a pos) (tT c (uTNot ua)) :=
  pt_wk (pt_not ha) fun σ H Q ⟨F, δ, t, P, f, u, k⟩ => ⟨F, δ, t, _, f, u, fun b F1 H1 t1 f1 g1 w => k _ F1 H1 t1 f1 g1 w⟩
/-- a list's or a tuple's truth -/
def uRowT (u : UE) : UT := fun t δ P => u t δ fun t1 d _ => match rowD d with
  | some ds => P t1 (!ds.isEmpty)
  | none => False
theorem isEmpty_rep {K : PySem.W.Frag} {G : Hp} {vs : List V} {ds : List D} (r : Rps K G vs ds) : vs.isEmpty = ds.isEmpty := by cases r <;> rfl
theorem vt_row {e : Expr} {u : UE} (hK : X.K = c.K) (h : PE X e (tV c u)) (he : ∀ whole, isTrue e X.env whole = (do let v ← whole; standAt e.pos; holding [v] (truthy v)) := by intro _; rfl) : PT X e (tT c (uRowT u)) :=
  pt_wk (pt_truth h he) fun σ H Q ⟨F, δ, t, P, f, u, k⟩ => ⟨F, δ, t, _, f, u, fun v F1 H1 t1 d g f1 g1 r w => by
    split at w
    · rename_i ds e1
      obtain ⟨a, xs, rfl, h, r2⟩ := (r.all f1).row e1
      refine ⟨!ds.isEmpty, ?_, k _ F1 H1 t1 f1 g1 w⟩
      rw [hK, ← isEmpty_rep r2]
      rcases h with h | h
      · exact .inl ⟨xs, SqL.of h, rfl⟩
      · exact .inr (.inl ⟨xs, h, rfl⟩)
    · exact w.elim⟩
def uIte (uc : UT) (ua ub : UE) : UE := fun t δ P => uc t δ fun t1 b => (b = true → ua t1 δ P) ∧ (b = false → ub t1 δ P)
theorem v_ifExp {cc a b : Expr} {pos : Pos} {uc : UT} {ua ub : UE} (hc : PT X cc (tT c uc)) (ha : PE X a (tV c ua)) (hb : PE X b (tV c ub)) : PE X (.IfExp cc a b pos) (tV c (uIte uc ua ub)) :=
  pe_wk (pe_ifExp hc ha hb) fun σ H Q ⟨F, δ, t, P, f, u, k⟩ => ⟨F, δ, t, _, f, u, fun b F1 H1 t1 f1 g1 w => ifM w
    (fun w => ⟨F1, δ, t1, P, f1, w, fun v F2 H2 t2 d g f2 g2 r2 p => k v F2 H2 t2 d g f2 (g1.trans g2) r2 p⟩) fun w => ⟨F1, δ, t1, P, f1, w, fun v F2 H2 t2 d g f2 g2 r2 p => k v F2 H2 t2 d g f2 (g1.trans g2) r2 p⟩⟩
/-- a op b op c -/
def uChain (w w' : Nat → D → Bool → D → Bool → (Nat → D → Bool → Prop) → Prop) (ua ub uc : UE) : UE := fun t δ P => ua t δ fun t1 d g => ub t1 δ fun t2 e h => w t2 d g e h fun t3 z _ => match z with
  | .bl b => (b = true → uc t3 δ fun t4 x i => w' t4 e h x i P) ∧ (b = false → P t3 (.bl false) true)
  | _ => False
theorem chainW {r r' : R2} {w w' : Nat → D → Bool → D → Bool → (Nat → D → Bool → Prop) → Prop} {ua ub uc : UE} {Q : VK} (hr : W2 c r w) (hr' : W2 c r' w') (h : tV c (uChain w w' ua ub uc) σ H Q) : tChain r r' (tV c ua) (tV c ub) (tV c uc) σ H Q := by
  obtain ⟨F, δ, t, P, f, u, k⟩ := h
  refine ⟨F, δ, t, _, f, u, fun x F1 H1 t1 d g f1 g1 r1 u1 => ⟨F1, δ, t1, _, f1, u1, fun y F2 H2 t2 e h f2 g2 r2 u2 => ?_⟩⟩
  refine hr x y F2 H2 d e g h δ σ t2 _ _ f2 (r1.up g2) r2 u2 fun v F3 H3 t3 z gz f3 g3 r3 u3 => ?_
  split at u3
  · rename_i b
    refine ⟨b, r3.blE, ifM u3 (fun u3 => ⟨F3, δ, t3, _, f3, u3, fun v F4 H4 t4 x i f4 g4 r4 u4 => ?_⟩) fun u3 => k _ F3 H3 t3 _ true f3 ((g1.trans g2).trans g3) (.bl false) u3⟩
    exact hr' y v F4 H4 e x h i δ σ t4 Q P f4 ((r2.up g3).up g4) r4 u4 fun v F' H' t' d g f' g' r' p => k v F' H' t' d g f' ((((g1.trans g2).trans g3).trans g4).trans g') r' p
  · exact u3.elim
theorem v_chain {a b d : Expr} {op op' : CmpOp} {pos : Pos} {r r' : R2} {w w' : Nat → D → Bool → D → Bool → (Nat → D → Bool → Prop) → Prop} {ua ub uc : UE} (ho : OpR X (compareOp op) r) (hr : W2 c r w) (ho' : OpR X (compareOp op') r') (hr' : W2 c r' w')
    (ha : PE X a (tV c ua)) (hb : PE X b (tV c ub)) (hc : PE X d (tV c uc)) (hm : lastMarks [op, op'] [b, d] = false := by with_unfolding_all rfl) : PE X (.Compare a [op, op'] [b, d] pos) (tV c (uChain w w' ua ub uc)) :=
  pe_wk (pe_chain ho ho' ha hb hc hm) fun _ _ _ h => chainW hr hr' h
theorem vt_chain {a b d : Expr} {op op' : CmpOp} {pos : Pos} {r r' : R2} {w w' : Nat → D → Bool → D → Bool → (Nat → D → Bool → Prop) → Prop} {ua ub uc : UE} (ho : OpR X (compareOp op) r) (hr : W2 c r w) (ho' : OpR X (compareOp op') r') (hr' : W2 c r' w')
    (ha : PE X a (tV c ua)) (hb : PE X b (tV c ub)) (hc : PE X d (tV c uc)) (hm : lastMarks [op, op'] [b, d] = false := by with_unfolding_all rfl) : PT X (.Compare a [op, op'] [b, d] pos) (tT c (uB (uChain w w' ua ub uc))) :=
  pt_wk (pt_chain ho ho' ha hb hc hm) fun σ H Q h => chainW (Q := fun x H' => ∃ k, x = .bl k ∧ Q k H') hr hr' (bT h)
/-! ### argument lists and displays -/
def uNil : UA := fun t _ P => P t [] true
def uCons (u : UE) (ur : UA) : UA := fun t δ P => u t δ fun t1 d g => ur t1 δ fun t2 ds h => P t2 (d :: ds) (g && h)
theorem va_nil : PA X [] (tAr c uNil) := pa_wk pa_nil fun σ H Q ⟨F, δ, t, P, f, u, k⟩ => k [] F H t [] true f (Gro.refl _ _ _) .nil u
theorem consW {u : UE} {ur : UA} {Q : List V → Hp → Prop} (h : tAr c (uCons u ur) σ H Q) : tCons (tV c u) (tAr c ur) σ H Q := by
  obtain ⟨F, δ, t, P, f, u, k⟩ := h
  exact ⟨F, δ, t, _, f, u, fun x F1 H1 t1 d g f1 g1 r1 u1 => ⟨F1, δ, t1, _, f1, u1, fun xs F2 H2 t2 ds h f2 g2 r2 u2 => k _ F2 H2 t2 _ _ f2 (g1.trans g2) (Rpgs.cons f2 (r1.up g2) r2) u2⟩⟩
theorem va_cons {e : Expr} {es : List Expr} {u : UE} {ur : UA} (ha : PE X e (tV c u)) (hr : PA X es (tAr c ur)) (hs : starEach (e :: es) X.env = (false, eval e X.env) :: starEach es X.env := by rfl) : PA X (e :: es) (tAr c (uCons u ur)) :=
  pa_wk (pa_cons ha hr hs) fun _ _ _ h => consW h
theorem vk_nil : PK X [] (tAr c uNil) := pk_wk pk_nil fun σ H Q ⟨F, δ, t, P, f, u, k⟩ => k [] F H t [] true f (Gro.refl _ _ _) .nil u
theorem vk_cons {e : Expr} {nm : Option Str} {kpos : Pos} {kws : List Keyword} {u : UE} {ur : UA} (ha : PE X e (tV c u)) (hr : PK X kws (tAr c ur)) : PK X (⟨nm, e, kpos⟩ :: kws) (tAr c (uCons u ur)) :=
  pk_wk (pk_cons ha hr) fun _ _ _ h => consW h
/-- a list that has just been made: what a tree it is; as frozen -/
theorem ne_ve {e : Expr} {u : UE} (h : PE X e (tN c u)) : PE X e (tV c u) := pe_wk h fun σ H Q ⟨F, δ, t, P, f, u, k⟩ =>
  ⟨F, δ, t, fun t1 d g => P t1 d g, f, u, fun p vs ds F1 H2 t1 g f1 g1 np fp no e r p1 => by
    have hp : c.H0 p = none := f.dn.gr.al p np
    have f2 := f1.freezeN fp hp no e
    have sF : Same F1 (upd F1 p (.lst vs)) := Same.neu fp
    have rr : Rp c.K (upd F1 p (.lst vs)) (.ref p) (.lst ds) := .lst upd_same (Rps.up sF r)
    refine k (.ref p) (upd F1 p (.lst vs)) H2 t1 (.lst ds) g f2 ⟨g1.sF.trans sF, g1.sH, fun b o z => ?_, g1.al⟩ ?_ p1
    · by_cases y : b = p
      · rw [y]; exact .inr np
      · rw [upd_ne y] at z; exact g1.nw b o z
    · cases g with
      | true => exact rr
      | false => exact Rp.up f2.dn.hidF rr⟩
def uLst (ua : UA) : UE := fun t δ P => ua t δ fun t1 ds g => g = true ∧ ds.length ≤ sizeLine ∧ P t1 (.lst ds) true
def uTup (ua : UA) : UE := fun t δ P => ua t δ fun t1 ds g => ds.length ≤ sizeLine ∧ P t1 (.tup ds) g
/-- a list of what may stand in a slot's own list -/
def uLstB (ua : UA) : UE := fun t δ P => ua t δ fun t1 ds g => ds.length ≤ sizeLine ∧ P t1 (.lst ds) g
theorem vn_lst {es : List Expr} {pos : Pos} {ua : UA} (h : PA X es (tAr c ua)) : PE X (.List es pos) (tN c (uLst ua)) :=
  pn_wk (pe_lstN h) fun σ H Q ⟨F, δ, t, P, f, u, k⟩ => ⟨F, δ, t, _, f, u, fun vs F1 H1 t1 ds g f1 g1 r ⟨w1, w2, w3⟩ => by
    subst w1
    have r : Rps c.K F1 vs ds := r
    exact ⟨by rw [r.length]; exact w2, fun p H2 np e s => kN k p vs ds F1 H1 H2 t1 true f1 g1 np e s r w3⟩⟩
/-- a new tuple, its object told -/
def NewP (H : Hp) (xs : List V) (Q : VK) : Prop := ∀ (p : Addr) (o : Obj) (H' : Hp), o.dict = none → H p = none → H' p = some (.frz o (.tup xs)) → Same H H' → Q (.ref p) H'
def tTupP (t : TA) : TE := fun σ H Q => t σ H fun xs H1 => xs.length ≤ sizeLine ∧ NewP H1 xs Q
theorem pe_tupP {es : List Expr} {pos : Pos} {x1} {t : TA} (h : PA X es t) : PE X (.Tuple es x1 pos) (tTupP t) := by
  constructor
  intro pins s σ H Q I due
  refine wpAny_Tuple_spliced (thn (h.run pos pins s σ H _ I due) ?_)
  rintro us s1 ⟨xs, H1, I1, r, z, q⟩
  refine ⟨by rw [← r.length]; exact z, ?_⟩
  have fr := I1.fresh
  have lay := I1.laid (o := .frz { cls := .type "tuple", data := .seq us.toArray } (.tup xs)) (t' := s1.toks) (fun b u e => Heap.get?_push_of_some { cls := .type "tuple", data := .seq us.toArray } e) (Nat.le_refl _) ⟨Heap.get?_push_size _ rfl, z, us, r, ⟨_, Heap.get?_push_size _ rfl, rfl, _, rfl⟩⟩
  exact ⟨V.ref s1.heap.objs.size, _, lay, rfl, q _ _ _ rfl fr upd_same (Same.neu fr)⟩
theorem new_tup {vs : List V} {ds : List D} {P : Nat → D → Bool → Prop} {Q : VK} {F0 H0 : Hp} (f : Fits c F δ σ H t) (g0 : Gro c.hs F0 H0 F H) (r : Rpgs c g F H vs ds) (p : P t (.tup ds) g)
    (k : ∀ v F' H' t' d g, Fits c F' δ σ H' t' → Gro c.hs F0 H0 F' H' → Rpg c g F' H' v d → P t' d g → Q v H') : NewP H vs Q := fun a o H2 od np e s => by
  have fp := (f.dn.fresh np).1
  cases g with
  | true =>
    have G := Gro.new (hs := c.hs) (o := .frz o (.tup vs)) np fp s
    exact k (.ref a) _ H2 t (.tup ds) true (f.newF np e s) (g0.trans G) (.tup (.inl ⟨o, upd_same, od⟩) (Rps.up G.sF r)) p
  | false =>
    have G : Gro c.hs F H F H2 := Gro.same s
    have nh := (f.dn.fresh np).2.2
    exact k (.ref a) F H2 t (.tup ds) false (f.newH s) (g0.trans G) (.tup (.inl ⟨o, hid_of nh e, od⟩) (Rps.up G.sH r)) p
theorem new_any {vs : List V} {ds : List D} {o : HO} {d : D} {P : Nat → D → Bool → Prop} {Q : VK} {F0 H0 : Hp} (f : Fits c F δ σ H t) (g0 : Gro c.hs F0 H0 F H) (ho : ∀ (G : Hp) (p : Addr), G p = some o → Rps c.K G vs ds → Rp c.K G (.ref p) d) (r : Rpgs c g F H vs ds) (p : P t d g)
    (k : ∀ v F' H' t' d g, Fits c F' δ σ H' t' → Gro c.hs F0 H0 F' H' → Rpg c g F' H' v d → P t' d g → Q v H') : New H o Q := fun a H2 np e s => by
  have fp := (f.dn.fresh np).1
  cases g with
  | true =>
    have G := Gro.new (hs := c.hs) (o := o) np fp s
    exact k (.ref a) (upd F a o) H2 t d true (f.newF np e s) (g0.trans G) (ho _ _ upd_same (Rps.up G.sF r)) p
  | false =>
    have G : Gro c.hs F H F H2 := Gro.same s
    have nh := (f.dn.fresh np).2.2
    exact k (.ref a) F H2 t d false (f.newH s) (g0.trans G) (ho _ _ (hid_of nh e) (Rps.up G.sH r)) p
theorem v_tup {es : List Expr} {pos : Pos} {x1} {ua : UA} (h : PA X es (tAr c ua)) : PE X (.Tuple es x1 pos) (tV c (uTup ua)) :=
  pe_wk (pe_tupP h) fun σ H Q ⟨F, δ, t, P, f, u, k⟩ => ⟨F, δ, t, _, f, u, fun vs F1 H1 t1 ds g f1 g1 r ⟨w2, w3⟩ =>
    ⟨by rw [(r.all f1).length]; exact w2, new_tup f1 g1 r w3 k⟩⟩
theorem v_lstB {es : List Expr} {pos : Pos} {ua : UA} (h : PA X es (tAr c ua)) : PE X (.List es pos) (tV c (uLstB ua)) :=
  pe_wk (pe_lstN h) fun σ H Q ⟨F, δ, t, P, f, u, k⟩ => ⟨F, δ, t, _, f, u, fun vs F1 H1 t1 ds g f1 g1 r ⟨w2, w3⟩ =>
    ⟨by rw [(r.all f1).length]; exact w2, new_any f1 g1 (fun G p e r => .lst e r) r w3 k⟩⟩
/-! ### fields -/
def uFld (C : Addr) (f : Str) (u : UE) : UE := fun t δ P => u t δ fun t1 d g => match d with
  | .ins C' fs => C' = C ∧ ∃ x, fs.lookup f = some x ∧ P t1 x g
  | _ => False
theorem Rp.insE {K : PySem.W.Frag} {G : Hp} {v : V} {C : Addr} {fs : List (Str × D)} (r : Rp K G v (.ins C fs)) : ∃ a dx gs, v = .ref a ∧ G a = some (.ins C dx gs) ∧ RpF K G gs fs := by
  cases r with
  | ins h r => exact ⟨_, _, _, rfl, h, r⟩
theorem v_fld {e : Expr} {f : Str} {pos : Pos} {u : UE} {C : Addr} (hK : X.K = c.K) (cl : Cls X.K C) (na : NoAttr X.K C f) (he : PE X e (tV c u)) (hb : attributeBase e f X.env (eval e X.env) = eval e X.env) : PE X (.Attribute e f pos) (tV c (uFld C f u)) :=
  pe_wk (pe_fld he hb) fun σ H Q ⟨F, δ, t, P, ft, u, k⟩ => ⟨F, δ, t, _, ft, u, fun v F1 H1 t1 d g f1 g1 r w => by
    split at w
    · rename_i C' fs
      obtain ⟨rfl, x, e1, p⟩ := w
      cases g with
      | true =>
        obtain ⟨a, dx, gs, rfl, h, r2⟩ := Rp.insE (show Rp c.K F1 v (.ins C' fs) from r)
        obtain ⟨y, e2, r3⟩ := r2.lookup e1
        exact ⟨a, C', dx, gs, y, rfl, f1.dn.fh _ _ h, cl, na, e2, k y F1 H1 t1 x true f1 g1 r3 p⟩
      | false =>
        obtain ⟨a, dx, gs, rfl, h, r2⟩ := Rp.insE (show Rp c.K (hid c.hs H1) v (.ins C' fs) from r)
        obtain ⟨y, e2, r3⟩ := r2.lookup e1
        exact ⟨a, C', dx, gs, y, rfl, hid_same _ _ _ _ h, cl, na, e2, k y F1 H1 t1 x false f1 g1 r3 p⟩
    · exact w.elim⟩
/-- self.f in an __init__, self the slot i -/
def uSelf (i : Nat) (f : Str) : UE := fun t δ P => match δ[i]? with
  | some (.oi _ fs) => ∃ x, fs.lookup f = some x ∧ P t x true
  | _ => False
theorem Fits.oiE (f : Fits c F δ σ H t) {i : Nat} {C : Addr} {fs : List (Str × D)} (e : δ[i]? = some (.oi C fs)) : ∃ a dx gs, σ[i]? = some (some (.ref a)) ∧ a ∈ c.hs ∧ (∀ L l cs, c.m = some (L, l, cs) → a ≠ L) ∧ H a = some (.ins C dx gs) ∧ RpF c.K F gs fs := by
  obtain ⟨A, h1, _⟩ := f.sl
  have l := (List.getElem?_eq_some_iff.mp e).1
  rw [f.len] at l
  have ex := List.getElem?_eq_getElem l
  obtain ⟨q1, q2, q3, dx, gs, q4, q5⟩ := h1 i _ _ e ex
  exact ⟨A i, dx, gs, by rw [ex, q1], q2, q3, q4, q5⟩
theorem v_self {e : Expr} {f : Str} {pos : Pos} {i : Nat} {C : Addr} (hK : X.K = c.K) (cl : Cls X.K C) (na : NoAttr X.K C f) (he : PE X e (tVar i)) (hb : attributeBase e f X.env (eval e X.env) = eval e X.env) : PE X (.Attribute e f pos) (tV c fun t δ P => uSelf i f t δ P ∧ ∀ C' fs, δ[i]? = some (.oi C' fs) → C' = C) :=
  pe_wk (pe_fld he hb) fun σ H Q ⟨F, δ, t, P, ft, ⟨u, uc⟩, k⟩ => by
    unfold uSelf at u
    split at u
    · rename_i C' fs e1
      obtain ⟨x, e2, p⟩ := u
      obtain ⟨a, dx, gs, h1, h2, h3, h4, h5⟩ := ft.oiE e1
      obtain ⟨y, e3, r3⟩ := h5.lookup e2
      have := uc _ _ e1
      subst this
      exact ⟨_, h1, a, C', dx, gs, y, rfl, h4, cl, na, e3, k y F H t x true ft (Gro.refl _ _ _) r3 p⟩
    · exact u.elim
end
end VL

set_option linter.all false
set_option maxRecDepth 100000
set_option maxHeartbeats 4000000
namespace VL
open PySem PySem.Spec PyProof.Rows L2 Nv
section
variable {c : Ct} {F F' H H' : Hp} {δ : List Sl} {σ : L2.St} {t t' : Nat} {g : Bool} {X : Cx}
/-! ### calls of built-in functions -/
abbrev WC := Nat → List D → Bool → (Nat → D → Bool → Prop) → Prop
def uC (w : WC) (ua : UA) : UE := fun t δ P => ua t δ fun t1 ds g => w t1 ds g P
def CW (c : Ct) (r : List V → Hp → VK → Prop) (w : WC) : Prop := ∀ vs F H ds g δ σ t Q P, Fits c F δ σ H t → Rpgs c g F H vs ds → w t ds g P →
  (∀ v F' H' t' d g, Fits c F' δ σ H' t' → Gro c.hs F H F' H' → Rpg c g F' H' v d → P t' d g → Q v H') → r vs H Q
/-- one that gives a new list -/
def CN (c : Ct) (r : List V → Hp → VK → Prop) (w : WC) : Prop := ∀ vs F H ds g δ σ t Q P, Fits c F δ σ H t → Rpgs c g F H vs ds → w t ds g P →
  (∀ p vs ds F' H1 H' t' g, Fits c F' δ σ H1 t' → Gro c.hs F H F' H1 → H1 p = none → H' p = some (.lst vs) → Same H1 H' → Rps c.K F' vs ds → P t' (.lst ds) g → Q (.ref p) H') → r vs H Q
theorem cW {r : List V → Hp → VK → Prop} {w : WC} {ua : UA} {Q : VK} (hr : CW c r w) (h : tV c (uC w ua) σ H Q) : tCB r (tAr c ua) σ H Q := by
  obtain ⟨F, δ, t, P, f, u, k⟩ := h
  exact ⟨F, δ, t, _, f, u, fun vs F1 H1 t1 ds g f1 g1 r1 u1 => hr vs F1 H1 ds g δ σ t1 Q P f1 r1 u1 fun v F' H' t' d g f' g' r' p => k v F' H' t' d g f' (g1.trans g') r' p⟩
theorem cN {r : List V → Hp → VK → Prop} {w : WC} {ua : UA} {Q : VK} (hr : CN c r w) (h : tN c (uC w ua) σ H Q) : tCB r (tAr c ua) σ H Q := by
  obtain ⟨F, δ, t, P, f, u, k⟩ := h
  exact ⟨F, δ, t, _, f, u, fun vs F1 H1 t1 ds g f1 g1 r1 u1 => hr vs F1 H1 ds g δ σ t1 Q P f1 r1 u1 fun p vs ds F' H2 H' t' g f' g' np e s r' p' => kN k p vs ds F' H2 H' t' g f' (g1.trans g') np e s r' p'⟩
section
variable {e : Expr} {es : List Expr} {x : Str} {p pos : Pos} {id T : String} {r : List V → Hp → VK → Prop} {w : WC} {ua : UA}
theorem v_callB (hc : CallR X (.builtin id) r) (hr : CW c r w) (hg : Gl X x) (hm : X.mg x = none) (hv : bootBuiltins x = some (.builtin id)) (ha : PA X (e :: es) (tAr c ua)) (hn : x ≠ "__name__" := by decide) (hdb : (x == ("__debug__" : Str)) = false := by decide)
    (he : starEach (e :: es) X.env = (false, eval e X.env) :: starEach es X.env := by rfl) (hpl : (backTo pos (starEach es X.env)).any (·.1) = false := by rfl) : PE X (.Call (.Name x p) (e :: es) [] pos) (tV c (uC w ua)) := pe_wk (pe_callB hc hg hm hv ha hn hdb he hpl) fun _ _ _ h => cW hr h
theorem v_callTy (hc : CallR X (.type T) r) (hr : CW c r w) (hg : Gl X x) (hm : X.mg x = none) (hv : bootBuiltins x = some (.type T)) (ha : PA X (e :: es) (tAr c ua)) (hn : x ≠ "__name__" := by decide) (hdb : (x == ("__debug__" : Str)) = false := by decide)
    (he : starEach (e :: es) X.env = (false, eval e X.env) :: starEach es X.env := by rfl) (hpl : (backTo pos (starEach es X.env)).any (·.1) = false := by rfl) : PE X (.Call (.Name x p) (e :: es) [] pos) (tV c (uC w ua)) := pe_wk (pe_callTy hc hg hm hv ha hn hdb he hpl) fun _ _ _ h => cW hr h
theorem v_callF (hc : CallR X (.builtin id) r) (hr : CW c r w) (hg : Gl X x) (hm : X.mg x = some (.builtin id)) (ha : PA X (e :: es) (tAr c ua)) (hdb : (x == ("__debug__" : Str)) = false := by decide)
    (he : starEach (e :: es) X.env = (false, eval e X.env) :: starEach es X.env := by rfl) (hpl : (backTo pos (starEach es X.env)).any (·.1) = false := by rfl) : PE X (.Call (.Name x p) (e :: es) [] pos) (tV c (uC w ua)) := pe_wk (pe_callBfun hc hg hm ha hdb he hpl) fun _ _ _ h => cW hr h
theorem vn_callB (hc : CallR X (.builtin id) r) (hr : CN c r w) (hg : Gl X x) (hm : X.mg x = none) (hv : bootBuiltins x = some (.builtin id)) (ha : PA X (e :: es) (tAr c ua)) (hn : x ≠ "__name__" := by decide) (hdb : (x == ("__debug__" : Str)) = false := by decide)
    (he : starEach (e :: es) X.env = (false, eval e X.env) :: starEach es X.env := by rfl) (hpl : (backTo pos (starEach es X.env)).any (·.1) = false := by rfl) : PE X (.Call (.Name x p) (e :: es) [] pos) (tN c (uC w ua)) := pn_wk (pe_callB hc hg hm hv ha hn hdb he hpl) fun _ _ _ h => cN hr h
theorem vn_callTy (hc : CallR X (.type T) r) (hr : CN c r w) (hg : Gl X x) (hm : X.mg x = none) (hv : bootBuiltins x = some (.type T)) (ha : PA X (e :: es) (tAr c ua)) (hn : x ≠ "__name__" := by decide) (hdb : (x == ("__debug__" : Str)) = false := by decide)
    (he : starEach (e :: es) X.env = (false, eval e X.env) :: starEach es X.env := by rfl) (hpl : (backTo pos (starEach es X.env)).any (·.1) = false := by rfl) : PE X (.Call (.Name x p) (e :: es) [] pos) (tN c (uC w ua)) := pn_wk (pe_callTy hc hg hm hv ha hn hdb he hpl) fun _ _ _ h => cN hr h
end
theorem Rpgs.one {v : List V} {d : D} (r : Rpgs c g F H v [d]) : ∃ x, v = [x] ∧ Rpg c g F H x d := by
  cases g with
  | true => cases (show Rps c.K F v [d] from r) with | cons h k => cases k; exact ⟨_, rfl, h⟩
  | false => cases (show Rps c.K (hid c.hs H) v [d] from r) with | cons h k => cases k; exact ⟨_, rfl, h⟩
theorem Rpgs.two {v : List V} {d e : D} (r : Rpgs c g F H v [d, e]) : ∃ x y, v = [x, y] ∧ Rpg c g F H x d ∧ Rpg c g F H y e := by
  cases g with
  | true => cases (show Rps c.K F v [d, e] from r) with | cons h k => cases k with | cons h2 k => cases k; exact ⟨_, _, rfl, h, h2⟩
  | false => cases (show Rps c.K (hid c.hs H) v [d, e] from r) with | cons h k => cases k with | cons h2 k => cases k; exact ⟨_, _, rfl, h, h2⟩
/-- len -/
def wLen : WC := fun t ds _ P => match ds with
  | [d] => match rowD d with
    | some es => P t (.int es.length) true
    | none => False
  | _ => False
theorem c_len : CW c (rLenSeq c.K) wLen := fun vs F H ds g δ σ t Q P f r w k => by
  unfold wLen at w
  split at w
  · rename_i d
    split at w
    · rename_i es e1
      obtain ⟨x, rfl, r1⟩ := r.one
      obtain ⟨a, xs, rfl, h, r2⟩ := (r1.all f).row e1
      refine ⟨a, xs, rfl, h.imp SqL.of id, k _ F H t _ true f (Gro.refl _ _ _) ?_ w⟩
      rw [r2.length]
      exact .int _
    · exact w.elim
  · exact w.elim
/-- tuple(x) -/
def wTupOf : WC := fun t ds g P => match ds with
  | [.lst es] => P t (.tup es) g
  | [.tup es] => P t (.tup es) g
  | _ => False
def rTupP (K : PySem.W.Frag) : List V → Hp → VK → Prop := fun xs H Q => ∃ p ys, xs = [.ref p] ∧ ((SqL K H p ys ∧ NewP H ys Q) ∨ (SqT K H p ys ∧ Q (.ref p) H))
theorem cr_tupP : CallR X (.type "tuple") (rTupP X.K) := by
  intro pins s σ H xs us Q I r h
  obtain ⟨p, ys, rfl, h⟩ := h
  obtain ⟨u, rfl, rx⟩ := vals1 r
  obtain rfl : u = Value.ref p := rx
  rcases h with ⟨hq, q⟩ | ⟨hq, q⟩
  · obtain ⟨its, rv, pl, small⟩ := I.list hq
    have ln := rv.length
    refine call_tuple_list pl.isList (fun h' kp => ?_) (by rw [List.size_toArray]; omega)
    have J : Inv X pins σ H { s with heap := h' } := I.kept (t' := s.toks) kp
    have fr : H h'.objs.size = none := J.fresh
    have lay := J.laid (o := .frz { cls := .type "tuple", data := .seq its.toArray } (.tup ys)) (t' := s.toks) (fun b o e => Heap.get?_push_of_some { cls := .type "tuple", data := .seq its.toArray } e) (Nat.le_refl _) ⟨Heap.get?_push_size _ rfl, small, its, rv, IsTup.new _ _⟩
    exact ⟨.ref h'.objs.size, _, lay, rfl, q _ _ _ rfl fr upd_same (Same.neu fr)⟩
  · exact call_tuple_of pins s σ H _ _ Q I r ⟨p, ys, rfl, .inr ⟨hq, q⟩⟩
theorem c_tup : CW c (rTupP c.K) wTupOf := fun vs F H ds g δ σ t Q P f r w k => by
  unfold wTupOf at w
  split at w
  · rename_i es
    obtain ⟨x, rfl, r1⟩ := r.one
    cases g with
    | true =>
      cases (show Rp c.K F x (.lst es) from r1) with
      | lst h r2 => exact ⟨_, _, rfl, .inl ⟨SqL.of (f.dn.fh _ _ h), new_tup (g := true) f (Gro.refl _ _ _) r2 w k⟩⟩
    | false =>
      cases (show Rp c.K (hid c.hs H) x (.lst es) from r1) with
      | lst h r2 => exact ⟨_, _, rfl, .inl ⟨SqL.of (hid_same _ _ _ _ h), new_tup (g := false) f (Gro.refl _ _ _) r2 w k⟩⟩
  · rename_i es
    obtain ⟨x, rfl, r1⟩ := r.one
    cases (r1.all f) with
    | tup h r2 => exact ⟨_, _, rfl, .inr ⟨h.sq, k _ F H t _ g f (Gro.refl _ _ _) r1 w⟩⟩
  · exact w.elim
/-- abs, int, min, max of ints -/
def wI1 (f : Int → D) : WC := fun t ds _ P => match ds with
  | [.int i] => P t (f i) true
  | _ => False
def wI2 (f : Int → Int → D) : WC := fun t ds _ P => match ds with
  | [.int i, .int j] => P t (f i j) true
  | _ => False
/-- all, any, sum of a list of truths, ints -/
def blsD : List D → Option (List Bool)
  | [] => some []
  | .bl b :: r => (blsD r).map (b :: ·)
  | _ => none
def intsD : List D → Option (List Int)
  | [] => some []
  | .int b :: r => (intsD r).map (b :: ·)
  | _ => none
theorem blsD_eq : ∀ {ds : List D} {bs : List Bool}, blsD ds = some bs → ds = bs.map D.bl
  | [], _, e => by cases e; rfl
  | .bl b :: r, _, e => by
    unfold blsD at e
    cases h : blsD r with
    | none => rw [h] at e; cases e
    | some z => rw [h] at e; cases e; rw [blsD_eq h]; rfl
  | .non :: _, _, e => by cases e
  | .int _ :: _, _, e => by cases e
  | .str _ :: _, _, e => by cases e
  | .lst _ :: _, _, e => by cases e
  | .tup _ :: _, _, e => by cases e
  | .ins _ _ :: _, _, e => by cases e
  | .adr _ :: _, _, e => by cases e
  | .ty _ :: _, _, e => by cases e
theorem intsD_eq : ∀ {ds : List D} {bs : List Int}, intsD ds = some bs → ds = bs.map D.int
  | [], _, e => by cases e; rfl
  | .int b :: r, _, e => by
    unfold intsD at e
    cases h : intsD r with
    | none => rw [h] at e; cases e
    | some z => rw [h] at e; cases e; rw [intsD_eq h]; rfl
  | .non :: _, _, e => by cases e
  | .bl _ :: _, _, e => by cases e
  | .str _ :: _, _, e => by cases e
  | .lst _ :: _, _, e => by cases e
  | .tup _ :: _, _, e => by cases e
  | .ins _ _ :: _, _, e => by cases e
  | .adr _ :: _, _, e => by cases e
  | .ty _ :: _, _, e => by cases e
theorem bls_map (bs : List Bool) : blsD (bs.map D.bl) = some bs := by
  induction bs with
  | nil => rfl
  | cons b r ih => show (blsD (r.map D.bl)).map (b :: ·) = _; rw [ih]; rfl
theorem ints_map (bs : List Int) : intsD (bs.map D.int) = some bs := by
  induction bs with
  | nil => rfl
  | cons b r ih => show (intsD (r.map D.int)).map (b :: ·) = _; rw [ih]; rfl
theorem Rps.bls {K : PySem.W.Frag} {G : Hp} : ∀ {bs : List Bool} {vs : List V}, Rps K G vs (bs.map D.bl) → vs = bs.map V.bl
  | [], _, r => by cases r; rfl
  | b :: bs, _, r => by
    cases r with
    | cons h t => cases h; rw [Rps.bls t]; rfl
theorem Rps.ints {K : PySem.W.Frag} {G : Hp} : ∀ {bs : List Int} {vs : List V}, Rps K G vs (bs.map D.int) → vs = bs.map V.int
  | [], _, r => by cases r; rfl
  | b :: bs, _, r => by
    cases r with
    | cons h t => cases h; rw [Rps.ints t]; rfl
def wBls (f : List Bool → D) : WC := fun t ds _ P => match ds with
  | [.lst es] => ∃ bs, blsD es = some bs ∧ P t (f bs) true
  | _ => False
def wInts (f : List Int → D) : WC := fun t ds _ P => match ds with
  | [.lst es] => ∃ bs, intsD es = some bs ∧ P t (f bs) true
  | _ => False
theorem c_all : CW c (rAll c.K) (wBls fun bs => .bl (bs.all id)) := fun vs F H ds g δ σ t Q P f r w k => by
  unfold wBls at w
  split at w
  · obtain ⟨bs, e1, p⟩ := w
    obtain ⟨x, rfl, r1⟩ := r.one
    rw [blsD_eq e1] at r1
    cases (r1.all f) with
    | lst h r2 => rw [r2.bls] at h; exact ⟨_, bs, rfl, SqL.of h, k _ F H t _ true f (Gro.refl _ _ _) (.bl _) p⟩
  · exact w.elim
theorem c_any : CW c (rAny c.K) (wBls fun bs => .bl (bs.any id)) := fun vs F H ds g δ σ t Q P f r w k => by
  unfold wBls at w
  split at w
  · obtain ⟨bs, e1, p⟩ := w
    obtain ⟨x, rfl, r1⟩ := r.one
    rw [blsD_eq e1] at r1
    cases (r1.all f) with
    | lst h r2 => rw [r2.bls] at h; exact ⟨_, bs, rfl, SqL.of h, k _ F H t _ true f (Gro.refl _ _ _) (.bl _) p⟩
  · exact w.elim
theorem c_sum : CW c (rSum c.K) (wInts fun bs => .int bs.sum) := fun vs F H ds g δ σ t Q P f r w k => by
  unfold wInts at w
  split at w
  · obtain ⟨bs, e1, p⟩ := w
    obtain ⟨x, rfl, r1⟩ := r.one
    rw [intsD_eq e1] at r1
    cases (r1.all f) with
    | lst h r2 => rw [r2.ints] at h; exact ⟨_, bs, rfl, SqL.of h, k _ F H t _ true f (Gro.refl _ _ _) (.int _) p⟩
  · exact w.elim
/-! ### isinstance -/
/-- what isinstance tells of a tree, where it is known -/
def IsiOk (K : PySem.W.Frag) (u : Value) (f : D → Option Bool) : Prop := ∀ (d : D) (b : Bool), f d = some b → ∃ ty, PySem.W.kitOne K ty u = some b ∧ ∀ G v, Rp K G v d → TyX K G v ty
def isBk (f : String → Option Bool) : D → Option Bool
  | .non => f "NoneType"
  | .bl _ => f "bool"
  | .int _ => f "int"
  | .str _ => f "str"
  | .lst _ => f "list"
  | .tup _ => f "tuple"
  | _ => none
theorem Rp.tyTup {K : PySem.W.Frag} {G : Hp} {a : Addr} {xs : List V} (h : SqT K G a xs) : TyX K G (.ref a) (.type "tuple") := by
  rcases h with (h | ⟨o, h⟩) | ⟨o, its, n, e, cl, _⟩
  · exact .base (.tup h)
  · exact .fTuple h
  · exact .kTuple e cl
theorem isi_of {K : PySem.W.Frag} {u : Value} {f : String → Option Bool} (h : ∀ T b, f T = some b → PySem.W.kitOne K (.type T) u = some b) : IsiOk K u (isBk f) := by
  intro d b e
  cases d with
  | non => exact ⟨_, h _ _ e, fun G v r => by cases r; exact .base .non⟩
  | bl x => exact ⟨_, h _ _ e, fun G v r => by cases r; exact .base (.bl x)⟩
  | int x => exact ⟨_, h _ _ e, fun G v r => by cases r; exact .base (.int x)⟩
  | str x => exact ⟨_, h _ _ e, fun G v r => by cases r; exact .base (.str x)⟩
  | lst x => exact ⟨_, h _ _ e, fun G v r => by cases r with | lst h r => exact .base (.lst h)⟩
  | tup x => exact ⟨_, h _ _ e, fun G v r => by cases r with | tup h r => exact Rp.tyTup h.sq⟩
  | ins C fs => cases e
  | adr a => cases e
  | ty n => cases e
theorem isi_B {K : PySem.W.Frag} (T : String) : IsiOk K (.type T) (isBk fun S => kitB S T) := isi_of fun _ _ h => kit_ty h
/-- what a class of one's own needs for isinstance -/
structure ClsI (K : PySem.W.Frag) (C : Addr) : Prop where
  cl : Cls K C
  ha : PySem.W.findIn K (.ref C) "__class__" = some (some (.builtin "object.__class__"))
  hn : PySem.W.specialIn K (.builtin "object.__class__") "__get__" = some (some (.builtin "getset_descriptor.__get__"))
  ht : PySem.W.takesIn K (.builtin "object.__class__") = some true
  hm : PySem.W.mroIn K C (.type "object") = some true
theorem isi_ins {K : PySem.W.Frag} {C : Addr} (I : ClsI K C) {G : Hp} {v : V} {fs : List (Str × D)} (r : Rp K G v (.ins C fs)) : TyX K G v (.ref C) := by
  cases r with
  | ins h r => exact .base (.ins h I.cl I.ha I.hn I.ht I.hm)
/-- with the instances of a class -/
def isBC (C : Addr) (b0 : Bool) (f : D → Option Bool) : D → Option Bool
  | .ins C' _ => if C' = C then some b0 else none
  | d => f d
theorem isi_C {K : PySem.W.Frag} {C : Addr} {u : Value} {b0 : Bool} {f : D → Option Bool} (I : ClsI K C) (h : PySem.W.kitOne K (.ref C) u = some b0) (hf : IsiOk K u f) : IsiOk K u (isBC C b0 f) := by
  intro d b e
  cases d with
  | ins C' fs =>
    have e : (if C' = C then some b0 else none) = some b := e
    by_cases z : C' = C
    · rw [if_pos z] at e
      cases e
      subst z
      exact ⟨_, h, fun G v r => isi_ins I r⟩
    · rw [if_neg z] at e; cases e
  | _ => exact hf _ b e
def wIsi (f : D → Option Bool) : WC := fun t ds _ P => match ds with
  | [d, _] => ∃ b, f d = some b ∧ P t (.bl b) true
  | _ => False
theorem Rp.cls {K : PySem.W.Frag} {G : Hp} {v : V} {n : String} (r : Rp K G v (.ty n)) : v = .ty n := by cases r; rfl
theorem Rp.adrE {K : PySem.W.Frag} {G : Hp} {v : V} {a : Addr} (r : Rp K G v (.adr a)) : v = .ref a := by cases r; rfl
/-- isinstance(x, T) -/
def wIsi1 (T : String) (f : D → Option Bool) : WC := fun t ds _ P => match ds with
  | [d, .ty n] => n = T ∧ ∃ b, f d = some b ∧ P t (.bl b) true
  | _ => False
theorem c_isi1 {T : String} {f : D → Option Bool} (hf : IsiOk c.K (.type T) f) : CW c (rIsi c.K) (wIsi1 T f) := fun vs F H ds g δ σ t Q P ft r w k => by
  unfold wIsi1 at w
  split at w
  · rename_i d n
    obtain ⟨rfl, b, e, p⟩ := w
    obtain ⟨x, y, rfl, r1, r2⟩ := r.two
    rw [(r2.all ft).cls]
    obtain ⟨ty, h1, h2⟩ := hf d b e
    exact ⟨x, .ty n, ty, .type n, b, rfl, .ty n, h2 H x (r1.all ft), h1, k _ F H t _ true ft (Gro.refl _ _ _) (.bl b) p⟩
  · exact w.elim
/-- isinstance(x, C), C a class of one's own -/
def wIsiC (C : Addr) (f : D → Option Bool) : WC := fun t ds _ P => match ds with
  | [d, .adr a] => a = C ∧ ∃ b, f d = some b ∧ P t (.bl b) true
  | _ => False
theorem c_isiC {C : Addr} {f : D → Option Bool} (hf : IsiOk c.K (.ref C) f) : CW c (rIsi c.K) (wIsiC C f) := fun vs F H ds g δ σ t Q P ft r w k => by
  unfold wIsiC at w
  split at w
  · rename_i d a
    obtain ⟨rfl, b, e, p⟩ := w
    obtain ⟨x, y, rfl, r1, r2⟩ := r.two
    rw [(r2.all ft).adrE]
    obtain ⟨ty, h1, h2⟩ := hf d b e
    exact ⟨x, .ref a, ty, .ref a, b, rfl, .own a, h2 H x (r1.all ft), h1, k _ F H t _ true ft (Gro.refl _ _ _) (.bl b) p⟩
  · exact w.elim
theorem kitAny2 {K : PySem.W.Frag} {ty u1 u2 : Value} {b1 b2 : Bool} (h1 : PySem.W.kitOne K ty u1 = some b1) (h2 : PySem.W.kitOne K ty u2 = some b2) : PySem.W.kitAny K ty [u1, u2] = some (b1 || b2) := by
  refine kitAny_cons h1 (fun z => ?_) (fun z => by rw [z]; rfl)
  subst z
  exact kitAny_cons h2 (fun z => by subst z; exact kitAny_nil) (fun z => by rw [z]; rfl)
/-- isinstance(x, (list, tuple)) -/
def uIsRow (u : UE) : UE := fun t δ P => u t δ fun t1 d _ => ∃ b1 b2, isBk (fun S => kitB S "list") d = some b1 ∧ isBk (fun S => kitB S "tuple") d = some b2 ∧ P t1 (.bl (b1 || b2)) true
theorem kitAny2K {K : PySem.W.Frag} {d : D} {b1 b2 : Bool} (h1 : isBk (fun S => kitB S "list") d = some b1) (h2 : isBk (fun S => kitB S "tuple") d = some b2) : ∃ ty, PySem.W.kitAny K ty [.type "list", .type "tuple"] = some (b1 || b2) ∧ ∀ G v, Rp K G v d → TyX K G v ty := by
  cases d with
  | non => exact ⟨.type "NoneType", kitAny2 (kit_ty h1) (kit_ty h2), fun G v r => by cases r; exact .base .non⟩
  | bl x => exact ⟨.type "bool", kitAny2 (kit_ty h1) (kit_ty h2), fun G v r => by cases r; exact .base (.bl x)⟩
  | int x => exact ⟨.type "int", kitAny2 (kit_ty h1) (kit_ty h2), fun G v r => by cases r; exact .base (.int x)⟩
  | str x => exact ⟨.type "str", kitAny2 (kit_ty h1) (kit_ty h2), fun G v r => by cases r; exact .base (.str x)⟩
  | lst x => exact ⟨.type "list", kitAny2 (kit_ty h1) (kit_ty h2), fun G v r => by cases r with | lst h r => exact .base (.lst h)⟩
  | tup x => exact ⟨.type "tuple", kitAny2 (kit_ty h1) (kit_ty h2), fun G v r => by cases r with | tup h r => exact Rp.tyTup h.sq⟩
  | ins C fs => cases h1
  | adr a => cases h1
  | ty n => cases h1
theorem v_isRow {e a b : Expr} {x : Str} {p pos tp : Pos} {k : Nat} {u : UE} (hK : X.K = c.K) (hg : Gl X x) (hm : X.mg x = none) (hv : bootBuiltins x = some (.builtin "isinstance")) (he : PE X e (tV c u)) (h1 : PE X a (tC (.ty "list"))) (h2 : PE X b (tC (.ty "tuple"))) (hn : x ≠ "__name__" := by decide) (hdb : (x == ("__debug__" : Str)) = false := by decide)
    (hs : starEach [e, .Tuple [a, b] k tp] X.env = (false, eval e X.env) :: starEach [.Tuple [a, b] k tp] X.env := by rfl) (hs2 : starEach [.Tuple [a, b] k tp] X.env = (false, eval (.Tuple [a, b] k tp) X.env) :: starEach [] X.env := by rfl) (hs3 : starEach [a, b] X.env = (false, eval a X.env) :: starEach [b] X.env := by rfl) (hs4 : starEach [b] X.env = (false, eval b X.env) :: starEach [] X.env := by rfl)
    (hpl : (backTo pos (starEach [.Tuple [a, b] k tp] X.env)).any (·.1) = false := by rfl) : PE X (.Call (.Name x p) [e, .Tuple [a, b] k tp] [] pos) (tV c (uIsRow u)) :=
  pe_wk (pe_callB call_isiT hg hm hv (pa_cons he (pa_cons (pe_tupN (pa_cons h1 (pa_cons h2 pa_nil hs4) hs3)) pa_nil hs2) hs) hn hdb hs hpl) fun σ H Q ⟨F, δ, t, P, f, u, k⟩ => ⟨F, δ, t, _, f, u, fun v F1 H1 t1 d g f1 g1 r ⟨b1, b2, e1, e2, p1⟩ =>
    ⟨by show 2 ≤ sizeLine; decide, fun a H2 np e3 s => by
      obtain ⟨ty, k1, k2⟩ := kitAny2K (K := c.K) e1 e2
      refine ⟨v, a, [.ty "list", .ty "tuple"], ty, [.type "list", .type "tuple"], b1 || b2, rfl, e3, .cons (.ty _) (.cons (.ty _) .nil), ?_, hK ▸ k1, k _ F1 H2 t1 _ true (f1.newH s) (g1.trans (Gro.same s)) (.bl _) p1⟩
      rw [hK]
      exact k2 H2 v (Rp.up s (r.all f1))⟩⟩
/-! ### ints by name -/
theorem c_abs : CW c (fun xs H Q => ∃ i, xs = [.int i] ∧ Q (.int (if i < 0 then -i else i)) H) (wI1 fun i => .int (i.natAbs : Int)) := fun vs F H ds g δ σ t Q P ft r w k => by
  unfold wI1 at w
  split at w
  · rename_i i
    obtain ⟨x, rfl, r1⟩ := r.one
    rw [r1.intE]
    refine ⟨i, rfl, k _ F H t _ true ft (Gro.refl _ _ _) ?_ w⟩
    rw [show (if i < 0 then -i else i) = (i.natAbs : Int) by split <;> omega]
    exact .int _
  · exact w.elim
theorem c_max2 : CW c (fun xs H Q => ∃ i j, xs = [.int i, .int j] ∧ Q (.int (if j > i then j else i)) H) (wI2 fun i j => .int (max i j)) := fun vs F H ds g δ σ t Q P ft r w k => by
  unfold wI2 at w
  split at w
  · rename_i i j
    obtain ⟨x, y, rfl, r1, r2⟩ := r.two
    rw [r1.intE, r2.intE]
    refine ⟨i, j, rfl, k _ F H t _ true ft (Gro.refl _ _ _) ?_ w⟩
    rw [show (if j > i then j else i) = max i j by split <;> omega]
    exact .int _
  · exact w.elim
theorem c_min2 : CW c (fun xs H Q => ∃ i j, xs = [.int i, .int j] ∧ Q (.int (if j < i then j else i)) H) (wI2 fun i j => .int (min i j)) := fun vs F H ds g δ σ t Q P ft r w k => by
  unfold wI2 at w
  split at w
  · rename_i i j
    obtain ⟨x, y, rfl, r1, r2⟩ := r.two
    rw [r1.intE, r2.intE]
    refine ⟨i, j, rfl, k _ F H t _ true ft (Gro.refl _ _ _) ?_ w⟩
    rw [show (if j < i then j else i) = min i j by split <;> omega]
    exact .int _
  · exact w.elim
def wInt : WC := fun t ds _ P => match ds with
  | [.int i] => P t (.int i) true
  | [.bl b] => P t (.int (if b then 1 else 0)) true
  | _ => False
theorem c_int : CW c (fun xs H Q => (∃ i, xs = [.int i] ∧ Q (.int i) H) ∨ ∃ k, xs = [.bl k] ∧ Q (.int (if k then 1 else 0)) H) wInt := fun vs F H ds g δ σ t Q P ft r w k => by
  unfold wInt at w
  split at w
  · rename_i i
    obtain ⟨x, rfl, r1⟩ := r.one
    rw [r1.intE]
    exact .inl ⟨i, rfl, k _ F H t _ true ft (Gro.refl _ _ _) (.int _) w⟩
  · rename_i i
    obtain ⟨x, rfl, r1⟩ := r.one
    rw [r1.blE]
    exact .inr ⟨i, rfl, k _ F H t _ true ft (Gro.refl _ _ _) (.int _) w⟩
  · exact w.elim
/-! ### sorted, sets: tuples of numbers, None, tuples -/
mutual
def D.key : D → NestedKey
  | .int i => .num i
  | .str x => .text x
  | .tup ds => .tup (D.keys ds)
  | _ => .none
def D.keys : List D → List NestedKey
  | [] => []
  | d :: ds => d.key :: D.keys ds
end
mutual
/-- a key's tree -/
def toD : NestedKey → D
  | .none => .non
  | .num i => .int i
  | .text x => .str x
  | .tup ks => .tup (toDs ks)
def toDs : List NestedKey → List D
  | [] => []
  | k :: ks => toD k :: toDs ks
end
mutual
/-- numbers, None and tuples of them, of nesting up to n -/
def D.isKey : Nat → D → Bool
  | _, .non => true
  | _, .int _ => true
  | n + 1, .tup ds => D.isKeys n ds
  | _, _ => false
def D.isKeys : Nat → List D → Bool
  | _, [] => true
  | n, d :: ds => D.isKey n d && D.isKeys n ds
end
theorem isKeys_all {n : Nat} : ∀ ds : List D, D.isKeys n ds = ds.all (D.isKey n)
  | [] => by simp [D.isKeys]
  | d :: ds => by simp [D.isKeys, isKeys_all ds]
mutual
theorem key_ok : ∀ {n : Nat} {d : D}, D.isKey n d = true → toD d.key = d ∧ d.key.data = d.data ∧ d.key.depth ≤ n ∧ Pure d.key ∧ D.shp n d = true
  | _, .non, _ => ⟨rfl, rfl, by simp [D.key, NestedKey.depth], fun x hx => by simpa [D.key, NestedKey.leaves] using hx, by simp [D.shp]⟩
  | _, .int i, _ => ⟨rfl, rfl, by simp [D.key, NestedKey.depth], fun x hx => by simpa [D.key, NestedKey.leaves] using hx, by simp [D.shp]⟩
  | n + 1, .tup ds, h => by
    obtain ⟨h1, h2, h3, h4, h5⟩ := keys_ok (n := n) (ds := ds) (by simpa only [D.isKey] using h)
    refine ⟨by simp only [D.key, toD, h1], by simp only [D.key, NestedKey.data, D.data, h2], by simp only [D.key, NestedKey.depth]; omega, fun x hx => h4 x (by simpa only [D.key, NestedKey.leaves] using hx), by simp only [D.shp, h5]⟩
  | 0, .tup _, h => by simp [D.isKey] at h
  | _, .bl _, h => by simp [D.isKey] at h
  | _, .str _, h => by simp [D.isKey] at h
  | _, .lst _, h => by simp [D.isKey] at h
  | _, .ins _ _, h => by simp [D.isKey] at h
  | _, .adr _, h => by simp [D.isKey] at h
  | _, .ty _, h => by simp [D.isKey] at h
theorem keys_ok : ∀ {n : Nat} {ds : List D}, D.isKeys n ds = true → toDs (D.keys ds) = ds ∧ NestedKey.datas (D.keys ds) = D.datas ds ∧ NestedKey.depthAll (D.keys ds) ≤ n ∧ (∀ x ∈ NestedKey.leavesAll (D.keys ds), x = true) ∧ D.shps n ds = true
  | _, [], _ => ⟨rfl, rfl, by simp [D.keys, NestedKey.depthAll], fun x hx => by simp [D.keys, NestedKey.leavesAll] at hx, by simp [D.shps]⟩
  | n, d :: ds, h => by
    have h' : D.isKey n d = true ∧ D.isKeys n ds = true := by simpa only [D.isKeys, Bool.and_eq_true] using h
    obtain ⟨a1, a2, a3, a4, a5⟩ := key_ok h'.1
    obtain ⟨b1, b2, b3, b4, b5⟩ := keys_ok h'.2
    refine ⟨by simp only [D.keys, toDs, a1, b1], by simp only [D.keys, NestedKey.datas, D.datas, a2, b2], by simp only [D.keys, NestedKey.depthAll]; omega, fun x hx => ?_, by simp only [D.shps, a5, b5, Bool.and_self]⟩
    simp only [D.keys, NestedKey.leavesAll, List.mem_append] at hx
    rcases hx with hx | hx
    · exact a4 x hx
    · exact b4 x hx
end
end
end VL

set_option linter.all false
set_option maxRecDepth 100000
set_option maxHeartbeats 4000000
namespace VL
open PySem PySem.Spec PyProof.Rows L2 Nv
mutual
theorem key_toD : ∀ k : NestedKey, (toD k).key = k
  | .none => rfl
  | .num _ => rfl
  | .text _ => rfl
  | .tup ks => by simp only [toD, D.key, keys_toD ks]
theorem keys_toD : ∀ ks : List NestedKey, D.keys (toDs ks) = ks
  | [] => rfl
  | k :: ks => by simp only [toDs, D.keys, key_toD k, keys_toD ks]
end
mutual
theorem data_toD : ∀ k : NestedKey, (toD k).data = k.data
  | .none => rfl
  | .num _ => rfl
  | .text _ => rfl
  | .tup ks => by simp only [toD, D.data, NestedKey.data, datas_toD ks]
theorem datas_toD : ∀ ks : List NestedKey, D.datas (toDs ks) = NestedKey.datas ks
  | [] => rfl
  | k :: ks => by simp only [toDs, D.datas, NestedKey.datas, data_toD k, datas_toD ks]
end
theorem toD_inj {j k : NestedKey} (h : toD j = toD k) : j = k := by rw [← key_toD j, h, key_toD]
/-- a tuple, not empty, of numbers, None and tuples of them -/
def isTupK : D → Bool
  | .tup (x :: r) => D.isKey 8 (.tup (x :: r))
  | _ => false
theorem tupK_of {d : D} (h : isTupK d = true) : D.isKey 8 d = true ∧ ∃ x r, d = .tup (x :: r) := by
  unfold isTupK at h
  split at h
  · exact ⟨h, _, _, rfl⟩
  · cases h
def elV (p : Addr × NestedKey) : V := .ref p.1
def elD (p : Addr × NestedKey) : D := toD p.2
theorem els_of {K : PySem.W.Frag} {G : Hp} : ∀ {vs : List V} {ds : List D}, Rps K G vs ds → ds.all isTupK = true → ∃ L : Els, vs = L.map elV ∧ ds = L.map elD ∧ ∀ p ∈ L, Rp K G (.ref p.1) (elD p) ∧ isTupK (elD p) = true
  | _, _, .nil, _ => ⟨[], rfl, rfl, fun p hp => by cases hp⟩
  | v :: vs, d :: ds, .cons h t, a => by
    rw [List.all_cons, Bool.and_eq_true] at a
    obtain ⟨L, e1, e2, q⟩ := els_of t a.2
    obtain ⟨k1, x, r, e3⟩ := tupK_of a.1
    obtain ⟨b1, _⟩ := key_ok k1
    subst e3
    cases h with
    | @tup b xs _ h r2 =>
      refine ⟨(b, (D.tup (x :: r)).key) :: L, by rw [e1]; rfl, ?_, fun p hp => ?_⟩
      · rw [List.map_cons, ← e2]
        show _ = toD _ :: _
        rw [b1]
      · rcases List.mem_cons.mp hp with rfl | hp
        · refine ⟨?_, ?_⟩
          · show Rp K G (.ref b) (toD _)
            rw [b1]
            exact .tup h r2
          · show isTupK (toD _) = true
            rw [b1]
            exact a.1
        · exact q p hp
theorem el_tup {K : PySem.W.Frag} {G : Hp} {p : Addr × NestedKey} (r : Rp K G (.ref p.1) (elD p)) (h : isTupK (elD p) = true) : TupK K G p.1 p.2 ∧ Pure p.2 := by
  obtain ⟨k1, _⟩ := tupK_of h
  obtain ⟨_, b2, b3, b4, b5⟩ := key_ok k1
  have e : (elD p).key = p.2 := key_toD p.2
  rw [e] at b2 b3 b4
  refine ⟨⟨?_, b3⟩, b4⟩
  rw [b2]
  exact r.dp b5
/-- ascending by data -/
def SrtD (ds : List D) : Prop := Srt (ds.map D.data)
def AlikeD (ds : List D) : Prop := PySem.W.AllAlike (ds.map D.data)
theorem els_data (L : Els) : L.map datEl = (L.map elD).map D.data := by
  rw [List.map_map]
  exact List.map_congr_left fun p _ => (data_toD p.2).symm
theorem els_sortable {L : Els} (h : ∀ p ∈ L, isTupK (elD p) = true) : PySem.W.Sortable (L.map datEl) := .inl fun d hd => by
  obtain ⟨p, hp, rfl⟩ := List.mem_map.mp hd
  obtain ⟨_, x, r, e⟩ := tupK_of (h p hp)
  refine ⟨x.data, D.datas r, ?_⟩
  show p.2.data = _
  rw [← data_toD p.2, show toD p.2 = .tup (x :: r) from e]
  simp only [D.data, D.datas]
theorem els_depth {p : Addr × NestedKey} (h : isTupK (elD p) = true) : (datEl p).depth ≤ 50 := by
  obtain ⟨k1, _⟩ := tupK_of h
  obtain ⟨_, b2, _, _, b5⟩ := key_ok k1
  have := (shp_shaped b5).2
  have e : datEl p = (elD p).data := (data_toD p.2).symm
  rw [e]
  omega
theorem alike_sub {L : Els} {ds : List D} (a : AlikeD ds) (h : ∀ p ∈ L, elD p ∈ ds) : PySem.W.AllAlike (L.map datEl) := by
  rw [els_data]
  intro d hd d' hd'
  obtain ⟨x, hx, rfl⟩ := List.mem_map.mp hd
  obtain ⟨y, hy, rfl⟩ := List.mem_map.mp hd'
  obtain ⟨p, hp, rfl⟩ := List.mem_map.mp hx
  obtain ⟨q, hq, rfl⟩ := List.mem_map.mp hy
  exact a _ (List.mem_map.mpr ⟨_, h p hp, rfl⟩) _ (List.mem_map.mpr ⟨_, h q hq, rfl⟩)
theorem rps_els {K : PySem.W.Frag} {G : Hp} : ∀ {M : Els}, (∀ p ∈ M, Rp K G (.ref p.1) (elD p)) → Rps K G (M.map elV) (M.map elD)
  | [], _ => .nil
  | p :: M, h => .cons (h p List.mem_cons_self) (rps_els fun q hq => h q (List.mem_cons_of_mem _ hq))
section
variable {c : Ct} {F F' H H' : Hp} {δ : List Sl} {σ : L2.St} {t t' : Nat} {g : Bool} {X : Cx}
def uSortSet (u : UE) : UE := fun t δ P => u t δ fun t1 d g => match d with
  | .lst ds => g = true ∧ ds.all isTupK = true ∧ ds.length < 64 ∧ AlikeD ds ∧ ∀ M : List D, M.Nodup → (∀ x, x ∈ M ↔ x ∈ ds) → SrtD M → P t1 (.lst M) true
  | _ => False
def uLenSet (u : UE) : UE := fun t δ P => u t δ fun t1 d g => match d with
  | .lst ds => ds.all isTupK = true ∧ ds.length < 64 ∧ ∀ M : List D, M.Nodup → (∀ x, x ∈ M ↔ x ∈ ds) → P t1 (.int M.length) true
  | _ => False
def uSortL (u : UE) : UE := fun t δ P => u t δ fun t1 d g => match d with
  | .lst ds => g = true ∧ ds.all isTupK = true ∧ ds.length ≤ sizeLine ∧ AlikeD ds ∧ ∀ M : List D, M.Perm ds → SrtD M → P t1 (.lst M) true
  | _ => False
theorem set_mem {L ks : Els} (h1 : ∀ p ∈ L, p ∈ ks) (h2 : ∀ p ∈ ks, p.2 ∈ L.map Prod.snd) (x : D) : x ∈ L.map elD ↔ x ∈ ks.map elD := by
  constructor
  · intro h
    obtain ⟨p, hp, rfl⟩ := List.mem_map.mp h
    exact List.mem_map.mpr ⟨p, h1 p hp, rfl⟩
  · intro h
    obtain ⟨p, hp, rfl⟩ := List.mem_map.mp h
    obtain ⟨q, hq, e⟩ := List.mem_map.mp (h2 p hp)
    exact List.mem_map.mpr ⟨q, hq, by show toD q.2 = toD p.2; rw [e]⟩
theorem set_nodup {L : Els} (h : (L.map Prod.snd).Nodup) : (L.map elD).Nodup := by
  have e : L.map elD = (L.map Prod.snd).map toD := by rw [List.map_map]; rfl
  rw [e]
  exact List.Pairwise.map _ (fun a b n z => n (toD_inj z)) h
section
variable {e : Expr} {u : UE} {p1 p2 p3 p4 : Pos}
theorem vn_sortSet (hc : X.calm = true) (hu : X.A.units + 64 < cLine) (hK : X.K = c.K) (hg : Gl X "sorted") (hm : X.mg "sorted" = none) (hg2 : Gl X "set") (hm2 : X.mg "set" = none) (he : PE X e (tV c u))
    (hs : starEach [e] X.env = (false, eval e X.env) :: starEach [] X.env := by rfl) (hs2 : starEach [.Call (.Name "set" p3) [e] [] p4] X.env = (false, eval (.Call (.Name "set" p3) [e] [] p4) X.env) :: starEach [] X.env := by rfl) : PE X (.Call (.Name "sorted" p1) [.Call (.Name "set" p3) [e] [] p4] [] p2) (tN c (uSortSet u)) :=
  pn_wk (pe_callB (cr_sortN hc hu) hg hm (by decide +kernel) (pa_cons (pe_callTy (cr_setN hc hu) hg2 hm2 (by decide +kernel) (pa_cons he pa_nil hs) (by decide) (by decide) hs rfl) pa_nil hs2) (by decide) (by decide) hs2 rfl) fun σ H Q ⟨F, δ, t, P, f, u, k⟩ => ⟨F, δ, t, _, f, u, fun v F1 H1 t1 d g f1 g1 r w => by
    split at w
    · rename_i ds
      obtain ⟨rfl, w1, w2, w3, w4⟩ := w
      have r : Rp c.K F1 v (.lst ds) := r
      cases r with
      | @lst a xs _ h r =>
        obtain ⟨ks, e1, e2, q⟩ := els_of r w1
        subst e1
        subst e2
        rw [List.length_map] at w2
        have up : ∀ p ∈ ks, TupK X.K H1 p.1 p.2 ∧ Pure p.2 := fun p hp => by
          rw [hK]
          exact el_tup (Rp.up f1.dn.fh (q p hp).1) (q p hp).2
        refine ⟨a, ks, rfl, SqL.of (f1.dn.fh _ _ h), up, w2, fun b L H2 nb l1 l2 l3 l4 e3 s => ?_⟩
        have inL : ∀ p ∈ L, elD p ∈ ks.map elD := fun p hp => List.mem_map.mpr ⟨p, l1 p hp, rfl⟩
        refine ⟨b, L, rfl, e3, fun p hp => ?_, alike_sub w3 inL, els_sortable fun p hp => (q p (l1 p hp)).2, fun p hp => els_depth (q p (l1 p hp)).2, fun M p H3 pm sr np e4 s3 => ?_⟩
        · rw [hK]
          exact (el_tup (Rp.up s (Rp.up f1.dn.fh (q p (l1 p hp)).1)) (q p (l1 p hp)).2).1
        · have inM : ∀ p ∈ M, p ∈ ks := fun p hp => l1 p (pm.mem_iff.mp hp)
          have f2 := f1.newH s
          have mm : ∀ x, x ∈ M.map elD ↔ x ∈ ks.map elD := fun x => ((pm.map elD).mem_iff).trans (set_mem l1 l2 x)
          refine kN k p (M.map elV) (M.map elD) F1 H2 H3 t1 true f2 (g1.trans (Gro.same s)) np e4 s3 (rps_els fun p hp => (q p (inM p hp)).1) (w4 _ ((pm.map elD).nodup_iff.mpr (set_nodup l3)) mm ?_)
          show Srt _
          rw [← els_data]
          exact sr
    · exact w.elim⟩
theorem v_lenSet (hc : X.calm = true) (hu : X.A.units + 64 < cLine) (hK : X.K = c.K) (hg : Gl X "len") (hm : X.mg "len" = none) (hg2 : Gl X "set") (hm2 : X.mg "set" = none) (he : PE X e (tV c u))
    (hs : starEach [e] X.env = (false, eval e X.env) :: starEach [] X.env := by rfl) (hs2 : starEach [.Call (.Name "set" p3) [e] [] p4] X.env = (false, eval (.Call (.Name "set" p3) [e] [] p4) X.env) :: starEach [] X.env := by rfl) : PE X (.Call (.Name "len" p1) [.Call (.Name "set" p3) [e] [] p4] [] p2) (tV c (uLenSet u)) :=
  pe_wk (pe_callB cr_lenN hg hm (by decide +kernel) (pa_cons (pe_callTy (cr_setN hc hu) hg2 hm2 (by decide +kernel) (pa_cons he pa_nil hs) (by decide) (by decide) hs rfl) pa_nil hs2) (by decide) (by decide) hs2 rfl) fun σ H Q ⟨F, δ, t, P, f, u, k⟩ => ⟨F, δ, t, _, f, u, fun v F1 H1 t1 d g f1 g1 r w => by
    split at w
    · rename_i ds
      obtain ⟨w1, w2, w4⟩ := w
      cases (r.all f1) with
      | @lst a xs _ h r =>
        obtain ⟨ks, e1, e2, q⟩ := els_of r w1
        subst e1
        subst e2
        rw [List.length_map] at w2
        have up : ∀ p ∈ ks, TupK X.K H1 p.1 p.2 ∧ Pure p.2 := fun p hp => by
          rw [hK]
          exact el_tup (q p hp).1 (q p hp).2
        refine ⟨a, ks, rfl, SqL.of h, up, w2, fun b L H2 nb l1 l2 l3 l4 e3 s => ⟨b, L, rfl, e3, ?_⟩⟩
        refine k _ F1 H2 t1 _ true (f1.newH s) (g1.trans (Gro.same s)) ?_ (w4 (L.map elD) (set_nodup l3) (set_mem l1 l2))
        rw [List.length_map]
        exact .int _
    · exact w.elim⟩
theorem vn_sortL (hu : X.A.units + 64 < cLine) (hK : X.K = c.K) (hg : Gl X "sorted") (hm : X.mg "sorted" = none) (he : PE X e (tV c u))
    (hs : starEach [e] X.env = (false, eval e X.env) :: starEach [] X.env := by rfl) : PE X (.Call (.Name "sorted" p1) [e] [] p2) (tN c (uSortL u)) :=
  pn_wk (pe_callB (cr_sortLN hu) hg hm (by decide +kernel) (pa_cons he pa_nil hs) (by decide) (by decide) hs rfl) fun σ H Q ⟨F, δ, t, P, f, u, k⟩ => ⟨F, δ, t, _, f, u, fun v F1 H1 t1 d g f1 g1 r w => by
    split at w
    · rename_i ds
      obtain ⟨rfl, w1, w2, w3, w4⟩ := w
      have r : Rp c.K F1 v (.lst ds) := r
      cases r with
      | @lst a xs _ h r =>
        obtain ⟨ks, e1, e2, q⟩ := els_of r w1
        subst e1
        subst e2
        have up : ∀ p ∈ ks, TupK X.K H1 p.1 p.2 ∧ Pure p.2 := fun p hp => by
          rw [hK]
          exact el_tup (Rp.up f1.dn.fh (q p hp).1) (q p hp).2
        refine ⟨a, ks, rfl, SqL.of (f1.dn.fh _ _ h), fun p hp => (up p hp).1, alike_sub w3 (fun p hp => List.mem_map.mpr ⟨p, hp, rfl⟩), els_sortable fun p hp => (q p hp).2, fun p hp => els_depth (q p hp).2, fun M p H3 pm sr np e4 s3 => ?_⟩
        have inM : ∀ p ∈ M, p ∈ ks := fun p hp => pm.mem_iff.mp hp
        refine kN k p (M.map elV) (M.map elD) F1 H1 H3 t1 true f1 g1 np e4 s3 (rps_els fun p hp => (q p (inM p hp)).1) (w4 _ (pm.map elD) ?_)
        show Srt _
        rw [← els_data]
        exact sr
    · exact w.elim⟩
end
end
end VL

set_option linter.all false
set_option maxRecDepth 100000
set_option maxHeartbeats 4000000
namespace VL
open PySem PySem.Spec PyProof.Rows L2 Nv
/-! # targets, what is walked, comprehensions -/
inductive Tg where
  | nm (i : Nat)
  | tp (ts : List Tg)
mutual
def gOf (K : PySem.W.Frag) : Tg → TG
  | .nm i => gName i
  | .tp ts => gSq K ts.length (gsOf K ts)
def gsOf (K : PySem.W.Frag) : List Tg → TGs
  | [] => gNil
  | t :: ts => gCons (gOf K t) (gsOf K ts)
end
mutual
def uT : Tg → D → List Sl → (List Sl → Prop) → Prop
  | .nm i, d, δ, k => k (δ.set i (.fr d))
  | .tp ts, d, δ, k => match rowD d with
    | some ds => ds.length = ts.length ∧ uTs ts ds δ k
    | none => False
def uTs : List Tg → List D → List Sl → (List Sl → Prop) → Prop
  | [], [], δ, k => k δ
  | t :: ts, d :: ds, δ, k => uT t d δ fun δ' => uTs ts ds δ' k
  | _, _, _, _ => False
end
mutual
def Tg.names : Tg → List Nat
  | .nm i => [i]
  | .tp ts => Tg.namesL ts
def Tg.namesL : List Tg → List Nat
  | [] => []
  | t :: ts => t.names ++ Tg.namesL ts
end
def wipeD (δ : List Sl) : List Nat → List Sl
  | [] => δ
  | v :: vs => (wipeD δ vs).set v .un
theorem set_same {α : Type} : ∀ (l : List α) (i : Nat) (a b : α), (l.set i a).set i b = l.set i b
  | [], _, _, _ => rfl
  | _ :: _, 0, _, _ => rfl
  | x :: l, i + 1, a, b => by
    show x :: ((l.set i a).set i b) = x :: l.set i b
    rw [set_same l i a b]
theorem wipe_set {σ : L2.St} {i : Nat} {x : Option V} : ∀ {vs : List Nat}, i ∈ vs → wipe (σ.set i x) vs = wipe σ vs
  | v :: vs, h => by
    unfold wipe
    by_cases e : i ∈ vs
    · rw [wipe_set e]
    · have z : i = v := (List.mem_cons.mp h).resolve_right e
      subst z
      have : wipe (σ.set i x) vs = (wipe σ vs).set i x := by
        clear h
        induction vs with
        | nil => rfl
        | cons w ws ih =>
          unfold wipe
          have n1 : i ≠ w := fun z => e (z ▸ List.mem_cons_self)
          rw [ih (fun z => e (List.mem_cons_of_mem _ z)), List.set_comm _ _ n1]
      rw [this, set_same]
theorem wipeD_set {σ : List Sl} {i : Nat} {x : Sl} : ∀ {vs : List Nat}, i ∈ vs → wipeD (σ.set i x) vs = wipeD σ vs
  | v :: vs, h => by
    unfold wipeD
    by_cases e : i ∈ vs
    · rw [wipeD_set e]
    · have z : i = v := (List.mem_cons.mp h).resolve_right e
      subst z
      have : wipeD (σ.set i x) vs = (wipeD σ vs).set i x := by
        clear h
        induction vs with
        | nil => rfl
        | cons w ws ih =>
          unfold wipeD
          have n1 : i ≠ w := fun z => e (z ▸ List.mem_cons_self)
          rw [ih (fun z => e (List.mem_cons_of_mem _ z)), List.set_comm _ _ n1]
      rw [this, set_same]
section
variable {c : Ct} {F F' H H' : Hp} {δ : List Sl} {σ : L2.St} {t t' : Nat} {g : Bool} {X : Cx}
theorem Fits.wipe (f : Fits c F δ σ H t) : ∀ vs : List Nat, Fits c F (wipeD δ vs) (wipe σ vs) H t
  | [] => f
  | v :: vs => (f.wipe vs).setU v none
mutual
theorem gT_ok : ∀ (T : Tg) {δ : List Sl} {σ : L2.St} {v : V} {d : D} {k : List Sl → Prop} {Q : L2.St → Hp → Prop}, Fits c F δ σ H t → Rp c.K F v d → uT T d δ k →
    (∀ δ' σ', Fits c F δ' σ' H t → (∀ vs, (∀ i ∈ T.names, i ∈ vs) → L2.wipe σ' vs = L2.wipe σ vs ∧ wipeD δ' vs = wipeD δ vs) → k δ' → Q σ' H) → gOf c.K T v σ H Q
  | .nm i, δ, σ, v, d, k, Q, f, r, u, q => by
    simp only [uT] at u
    simp only [gOf, gName]
    exact q _ _ (f.setF i r) (fun vs h => ⟨wipe_set (h i (by simp [Tg.names])), wipeD_set (h i (by simp [Tg.names]))⟩) u
  | .tp ts, δ, σ, v, d, k, Q, f, r, u, q => by
    simp only [uT] at u
    cases e : rowD d with
    | none => rw [e] at u; exact u.elim
    | some ds =>
      rw [e] at u
      obtain ⟨a, xs, rfl, h, r2⟩ := Rp.row r e
      simp only [gOf]
      refine ⟨a, xs, rfl, ?_, by rw [r2.length]; exact u.1, gTs_ok ts f r2 u.2 fun δ' σ' f' w k' => q δ' σ' f' (fun vs hv => w vs fun i hi => hv i (by simp only [Tg.names]; exact hi)) k'⟩
      rcases h with h | h
      · exact .inr (SqL.of (f.dn.fh _ _ h))
      · exact .inl (same_t f.dn.fh h)
theorem gTs_ok : ∀ (ts : List Tg) {δ : List Sl} {σ : L2.St} {vs : List V} {ds : List D} {k : List Sl → Prop} {Q : L2.St → Hp → Prop}, Fits c F δ σ H t → Rps c.K F vs ds → uTs ts ds δ k →
    (∀ δ' σ', Fits c F δ' σ' H t → (∀ vs, (∀ i ∈ Tg.namesL ts, i ∈ vs) → L2.wipe σ' vs = L2.wipe σ vs ∧ wipeD δ' vs = wipeD δ vs) → k δ' → Q σ' H) → gsOf c.K ts vs σ H Q
  | [], δ, σ, vs, ds, k, Q, f, r, u, q => by
    cases ds with
    | nil =>
      cases r
      simp only [uTs] at u
      simp only [gsOf]
      exact ⟨rfl, q _ _ f (fun vs h => ⟨rfl, rfl⟩) u⟩
    | cons d ds => simp only [uTs] at u
  | tt :: ts, δ, σ, vs, ds, k, Q, f, r, u, q => by
    cases ds with
    | nil => simp only [uTs] at u
    | cons d ds =>
      cases r with
      | cons h r =>
        simp only [uTs] at u
        simp only [gsOf]
        refine ⟨_, _, rfl, gT_ok tt f h u fun δ1 σ1 f1 w1 k1 => gTs_ok ts f1 r k1 fun δ2 σ2 f2 w2 k2 => q δ2 σ2 f2 (fun vs hv => ?_) k2⟩
        obtain ⟨a1, a2⟩ := w1 vs fun i hi => hv i (by simp only [Tg.namesL, List.mem_append]; exact .inl hi)
        obtain ⟨b1, b2⟩ := w2 vs fun i hi => hv i (by simp only [Tg.namesL, List.mem_append]; exact .inr hi)
        exact ⟨b1.trans a1, b2.trans a2⟩
end
/-! ### iterators -/
abbrev UI := Nat → List Sl → (Nat → List D → Bool → Prop) → Prop
/-- J gives these trees, as long as B stands -/
structure Yld (c : Ct) (J : It) (B F0 : Hp) (ds : List D) : Prop where
  go : ∀ i H2, Same B (hid c.hs H2) → i < ds.length → J.go i H2
  yl : ∀ i H2 x H' F δ σ t d, Same B (hid c.hs H2) → Same F0 F → Fits c F δ σ H2 t → ds[i]? = some d → J.yld i H2 x H' → ∃ F', Fits c F' δ σ H' t ∧ Gro c.hs F H2 F' H' ∧ Rp c.K F' x d
  stop : ∀ i H2, Same B (hid c.hs H2) → ds.length ≤ i → J.stop i H2
/-- g: it may be walked by a statement: B is frozen -/
def iV (c : Ct) (ui : UI) : TI := fun σ H R => ∃ F δ t P, Fits c F δ σ H t ∧ ui t δ P ∧ ∀ J B F' H' t' ds g, Fits c F' δ σ H' t' → Gro c.hs F H F' H' → Yld c J B F' ds → Same B (hid c.hs H') → (g = true → Same B F') → P t' ds g → R J H'
theorem pi_wk {X : Cx} {tg e : Expr} {tt : TI} {u : UI} (h : PI X tg e tt) (w : ∀ σ H R, iV c u σ H R → tt σ H R) : PI X tg e (iV c u) := ⟨fun pins s σ H R I q => h.run pins s σ H R I (w σ H R q)⟩
theorem yld_lst {a : Addr} {B : Hp} {xs : List V} {ds : List D} (h : B a = some (.lst xs)) (r : Rps c.K F xs ds) : Yld c (Itl c.K a) B F ds where
  go := fun i H2 s l => by
    obtain ⟨d, e⟩ : ∃ d, ds[i]? = some d := ⟨_, List.getElem?_eq_getElem l⟩
    obtain ⟨v, e2, _⟩ := r.getD e
    exact ⟨xs, v, SqL.of (hid_same _ _ _ _ (s _ _ h)), e2⟩
  yl := fun i H2 x H' F2 δ σ t d s sf f e y => by
    obtain ⟨rfl, y⟩ := y
    obtain ⟨v, e2, r2⟩ := r.getD e
    have := y xs (SqL.of (hid_same _ _ _ _ (s _ _ h)))
    rw [e2] at this
    cases this
    exact ⟨F2, f, Gro.refl _ _ _, r2.up sf⟩
  stop := fun i H2 s l => ⟨xs, SqL.of (hid_same _ _ _ _ (s _ _ h)), by rw [r.length]; exact l⟩
theorem yld_tup {a : Addr} {B : Hp} {xs : List V} {ds : List D} (h : SqT c.K B a xs) (r : Rps c.K F xs ds) : Yld c (Itt c.K a) B F ds where
  go := fun i H2 s l => by
    obtain ⟨d, e⟩ : ∃ d, ds[i]? = some d := ⟨_, List.getElem?_eq_getElem l⟩
    obtain ⟨v, e2, _⟩ := r.getD e
    exact ⟨xs, v, same_t (s.trans (hid_same _ _)) h, e2⟩
  yl := fun i H2 x H' F2 δ σ t d s sf f e y => by
    obtain ⟨rfl, y⟩ := y
    obtain ⟨v, e2, r2⟩ := r.getD e
    have := y xs (same_t (s.trans (hid_same _ _)) h)
    rw [e2] at this
    cases this
    exact ⟨F2, f, Gro.refl _ _ _, r2.up sf⟩
  stop := fun i H2 s l => ⟨xs, same_t (s.trans (hid_same _ _)) h, by rw [r.length]; exact l⟩
def rangeD (lo : Int) (n : Nat) : List D := (List.range n).map fun (i : Nat) => D.int (lo + (i : Int))
theorem yld_rng {lo : Int} {n : Nat} : Yld c (Itr lo n) F F (rangeD lo n) where
  go := fun i H2 s l => by simpa [rangeD, Itr] using l
  yl := fun i H2 x H' F2 δ σ t d s sf f e y => by
    obtain ⟨rfl, rfl⟩ := y
    unfold rangeD at e
    rw [List.getElem?_map] at e
    cases z : (List.range n)[i]? with
    | none => rw [z] at e; cases e
    | some j =>
      rw [z] at e
      have : j = i := by
        have := List.getElem?_eq_some_iff.mp z
        obtain ⟨h1, h2⟩ := this
        rw [List.getElem_range] at h2
        exact h2.symm
      subst this
      cases e
      exact ⟨F2, f, Gro.refl _ _ _, .int _⟩
  stop := fun i H2 s l => by simpa [rangeD, Itr] using l
/-- what an expression gives is walked, a list or a tuple -/
def iSeq (K : PySem.W.Frag) (tl : TE) : TI := fun σ H R => tl σ H fun x H1 => ∃ a, x = .ref a ∧ (((∃ xs, SqL K H1 a xs) ∧ R (Itl K a) H1) ∨ ((∃ xs, SqT K H1 a xs) ∧ R (Itt K a) H1))
theorem pi_seq {tg l : Expr} {tl : TE} (h : PE X l tl) : PI X tg l (iSeq X.K tl) := by
  constructor
  intro pins s σ H R I q
  refine thn (h.run pins s σ H _ I q) ?_
  rintro v s1 ⟨x, H1, I1, r1, a, rfl, q1⟩
  obtain rfl : v = Value.ref a := r1
  have me : ∀ {b : Addr}, b ∈ [s1.heap.objs.size] → FpOk X pins H1 b := fun {b} hb => by
    obtain rfl := List.mem_singleton.mp hb
    exact I1.fpOk (Nat.le_refl _) I1.fresh
  have kp : ∀ {o : Obj}, Inv X pins σ H1 { s1 with heap := s1.heap.push o } := fun {o} => I1.kept (t' := s1.toks) fun b u e => Heap.get?_push_of_some _ e
  rcases q1 with ⟨⟨xs, hq⟩, q1⟩ | ⟨⟨xs, hq⟩, q1⟩
  · obtain ⟨its, _, p, _⟩ := I1.list hq
    exact wpAny_pyIter_list p.isList ⟨_, [s1.heap.objs.size], _, _, H1, rfl, kp, turn_list a _, ⟨_, Heap.get?_push_size _ rfl, rfl, rfl⟩, fun b hb => me hb, q1⟩
  · obtain ⟨its, _, p, _⟩ := I1.tuple hq
    have p : s1.heap.IsTuple a its.toArray := p
    exact wpAny_pyIter_tuple p ⟨_, [s1.heap.objs.size], _, _, H1, rfl, kp, turn_tuple a _, ⟨_, Heap.get?_push_size _ rfl, rfl, rfl⟩, fun b hb => me hb, q1⟩
/-- a list or a tuple that an expression gives -/
def uiRow (u : UE) : UI := fun t δ P => u t δ fun t1 d g => g = true ∧ match rowD d with
  | some ds => P t1 ds true
  | none => False
theorem vi_row {tg l : Expr} {u : UE} (hK : X.K = c.K) (h : PE X l (tV c u)) : PI X tg l (iV c (uiRow u)) :=
  pi_wk (tt := iSeq c.K (tV c u)) (by rw [← hK]; exact pi_seq h) fun σ H R ⟨F, δ, t, P, f, u0, k⟩ => ⟨F, δ, t, _, f, u0, fun v F1 H1 t1 d g f1 g1 r w => by
    obtain ⟨rfl, w⟩ := w
    split at w
    · rename_i ds e
      obtain ⟨a, xs, rfl, h, r2⟩ := Rp.row (show Rp c.K F1 v d from r) e
      rcases h with h | h
      · exact ⟨a, rfl, .inl ⟨⟨xs, SqL.of (f1.dn.fh _ _ h)⟩, k _ F1 F1 H1 t1 ds true f1 g1 (yld_lst h r2) f1.dn.hidF (fun _ => Same.refl _) w⟩⟩
      · exact ⟨a, rfl, .inr ⟨⟨xs, same_t f1.dn.fh h⟩, k _ F1 F1 H1 t1 ds true f1 g1 (yld_tup h r2) f1.dn.hidF (fun _ => Same.refl _) w⟩⟩
    · exact w.elim⟩
/-- a slot that may be its own list -/
def uiVar (i : Nat) : UI := fun t δ P => match δ[i]? with
  | some (.ow ds) => P t ds false
  | some (.fr d) => match rowD d with
    | some ds => P t ds true
    | none => False
  | _ => False
theorem vi_var {tg l : Expr} {i : Nat} (hK : X.K = c.K) (h : PE X l (tVar i)) : PI X tg l (iV c (uiVar i)) :=
  pi_wk (tt := iSeq c.K (tVar i)) (by rw [← hK]; exact pi_seq h) fun σ H R ⟨F, δ, t, P, f, u, k⟩ => by
    unfold uiVar at u
    split at u
    · rename_i ds e
      obtain ⟨a, vs, e1, e2, e3, e4, e5, e6, _⟩ := f.own e
      exact ⟨_, e1, a, rfl, .inl ⟨⟨vs, SqL.of e5⟩, k _ (hid c.hs H) F H t ds false f (Gro.refl _ _ _) (yld_lst (hid_of e4 e5) e6) (Same.refl _) (fun z => nomatch z) u⟩⟩
    · rename_i d e
      have l := (List.getElem?_eq_some_iff.mp e).1
      rw [f.len] at l
      have ex := List.getElem?_eq_getElem l
      obtain ⟨A, h1, _⟩ := f.sl
      obtain ⟨v, e1, r⟩ := h1 i _ _ e ex
      split at u
      · rename_i ds e2
        obtain ⟨a, xs, rfl, h, r2⟩ := Rp.row r e2
        rcases h with h | h
        · exact ⟨_, by rw [ex, e1], a, rfl, .inl ⟨⟨xs, SqL.of (f.dn.fh _ _ h)⟩, k _ F F H t ds true f (Gro.refl _ _ _) (yld_lst h r2) f.dn.hidF (fun _ => Same.refl _) u⟩⟩
        · exact ⟨_, by rw [ex, e1], a, rfl, .inr ⟨⟨xs, same_t f.dn.fh h⟩, k _ F F H t ds true f (Gro.refl _ _ _) (yld_tup h r2) f.dn.hidF (fun _ => Same.refl _) u⟩⟩
      · exact u.elim
    · exact u.elim
/-- range(n), range(a, b) -/
def uiRng (ua : UA) : UI := fun t δ P => ua t δ fun t1 ds _ => match ds with
  | [.int j] => -(2 ^ 62) ≤ j ∧ j < 2 ^ 62 ∧ P t1 (rangeD 0 j.toNat) true
  | [.int i, .int j] => (-(2 ^ 62) ≤ i ∧ i < 2 ^ 62 ∧ -(2 ^ 62) ≤ j ∧ j < 2 ^ 62) ∧ P t1 (rangeD i (j - i).toNat) true
  | _ => False
def uiRng1 (ua : UA) : UI := fun t δ P => ua t δ fun t1 ds _ => match ds with
  | [.int j] => -(2 ^ 62) ≤ j ∧ j < 2 ^ 62 ∧ P t1 (rangeD 0 j.toNat) true
  | _ => False
def uiRng2 (ua : UA) : UI := fun t δ P => ua t δ fun t1 ds _ => match ds with
  | [.int i, .int j] => (-(2 ^ 62) ≤ i ∧ i < 2 ^ 62 ∧ -(2 ^ 62) ≤ j ∧ j < 2 ^ 62) ∧ P t1 (rangeD i (j - i).toNat) true
  | _ => False
theorem vi_rng1 {tg a : Expr} {ua : UA} {p pos : Pos} (hg : Gl X "range") (hm : X.mg "range" = none) (ha : PA X [a] (tAr c ua)) (hs : starEach [a] X.env = [(false, eval a X.env)] := by rfl) : PI X tg (.Call (.Name "range" p) [a] [] pos) (iV c (uiRng1 ua)) :=
  pi_wk (pi_range1 hg hm ha hs) fun σ H R ⟨F, δ, t, P, f, u, k⟩ => ⟨F, δ, t, _, f, u, fun vs F1 H1 t1 ds g f1 g1 r w => by
    split at w
    · rename_i j
      obtain ⟨x, rfl, r1⟩ := r.one
      rw [r1.intE]
      exact ⟨j, rfl, w.1, w.2.1, k _ F1 F1 H1 t1 _ true f1 g1 yld_rng f1.dn.hidF (fun _ => Same.refl _) w.2.2⟩
    · exact w.elim⟩
theorem vi_rng2 {tg a b : Expr} {ua : UA} {p pos : Pos} (hg : Gl X "range") (hm : X.mg "range" = none) (ha : PA X [a, b] (tAr c ua)) (hs : starEach [a, b] X.env = [(false, eval a X.env), (false, eval b X.env)] := by rfl) (hs2 : starEach [b] X.env = [(false, eval b X.env)] := by rfl) : PI X tg (.Call (.Name "range" p) [a, b] [] pos) (iV c (uiRng2 ua)) :=
  pi_wk (pi_range2 hg hm ha hs hs2) fun σ H R ⟨F, δ, t, P, f, u, k⟩ => ⟨F, δ, t, _, f, u, fun vs F1 H1 t1 ds g f1 g1 r w => by
    split at w
    · rename_i i j
      obtain ⟨x, y, rfl, r1, r2⟩ := r.two
      rw [r1.intE, r2.intE]
      exact ⟨i, j, rfl, w.1, k _ F1 F1 H1 t1 _ true f1 g1 yld_rng f1.dn.hidF (fun _ => Same.refl _) w.2⟩
    · exact w.elim⟩
/-! ### comprehensions -/
theorem Gro.side {hs : List Addr} {F H F' H' : Hp} {a : Addr} {o : HO} (g : Gro hs F H F' H') (n : H a = none) : Gro hs F H F' (upd H' a o) :=
  ⟨g.sF, fun b u h => by
    obtain ⟨b1, b2⟩ := of_hid h
    have ne : b ≠ a := fun z => by rw [z, n] at b2; cases b2
    exact hid_of b1 (by rw [upd_ne ne]; exact (of_hid (g.sH b u h)).2), g.nw, fun b h => by
    by_cases z : b = a
    · rw [z, upd_same] at h; cases h
    · rw [upd_ne z] at h; exact g.al b h⟩
theorem Gro.still {hs : List Addr} {F H F' H' : Hp} {a : Addr} {o : HO} (g : Gro hs F H F' H') (nh : a ∉ hs) (e : H a = some o) : H' a = some o := (of_hid (g.sH a o (hid_of nh e))).2
theorem Gro.not {hs : List Addr} {F H F' H' : Hp} {a : Addr} {o : HO} (g : Gro hs F H F' H') (n : F a = none) (e : H a = some o) : F' a = none := by
  cases z : F' a with
  | none => rfl
  | some u =>
    rcases g.nw a u z with y | y
    · rw [n] at y; cases y
    · rw [e] at y; cases y
theorem wipe_idem (σ : L2.St) : ∀ vs ws : List Nat, (∀ i ∈ ws, i ∈ vs) → L2.wipe (L2.wipe σ ws) vs = L2.wipe σ vs
  | vs, [], _ => rfl
  | vs, w :: ws, h => by
    show L2.wipe ((L2.wipe σ ws).set w none) vs = _
    rw [wipe_set (h w List.mem_cons_self), wipe_idem σ vs ws fun i hi => h i (List.mem_cons_of_mem _ hi)]
theorem wipeD_idem (σ : List Sl) : ∀ vs ws : List Nat, (∀ i ∈ ws, i ∈ vs) → wipeD (wipeD σ ws) vs = wipeD σ vs
  | vs, [], _ => rfl
  | vs, w :: ws, h => by
    show wipeD ((wipeD σ ws).set w .un) vs = _
    rw [wipeD_set (h w List.mem_cons_self), wipeD_idem σ vs ws fun i hi => h i (List.mem_cons_of_mem _ hi)]
/-- a new list beside the slots is changed -/
theorem Fits.side (f : Fits c F δ σ H t) {a : Addr} {vs : List V} (fa : F a = none) (ha : c.H0 a = none) (no : NotOwn δ σ a) : Fits c F δ σ (upd H a (.lst vs)) t := by
  have nh : a ∉ c.hs := fun z => (f.dn.hd _ z).2 ha
  have d : Done c F (upd H a (.lst vs)) t := by
    refine ⟨⟨f.dn.gr.sF, fun b o h => ?_, f.dn.gr.nw, fun b h => ?_⟩, fun b o h => ?_, f.dn.hd, fun L l cs z => ?_, f.dn.mh⟩
    · obtain ⟨b1, b2⟩ := of_hid h
      have ne : b ≠ a := fun z => by rw [z, ha] at b2; cases b2
      refine hid_of b1 ?_
      rw [upd_ne ne]
      exact (of_hid (f.dn.gr.sH b o h)).2
    · by_cases z : b = a
      · rw [z, upd_same] at h; cases h
      · rw [upd_ne z] at h; exact f.dn.gr.al b h
    · rw [upd_ne (fun z => by rw [z, fa] at h; cases h)]
      exact f.dn.fh b o h
    · have la := f.dn.mo L l cs z
      obtain ⟨m1, m2⟩ := f.dn.mh L l cs z
      exact la.upd (fun y => nh (y ▸ m1)) (fun y => m2 (y ▸ ha))
  obtain ⟨A, h1, h2⟩ := f.sl
  refine ⟨d, f.len, A, fun j u x e1 e2 => ?_, h2⟩
  have q := h1 j u x e1 e2
  cases u with
  | un => trivial
  | fr d => exact q
  | ow es2 =>
    obtain ⟨r1, r2, r3, vs2, r4, r5⟩ := q
    have ne : A j ≠ a := fun y => no j _ e1 rfl (by rw [e2, r1, y])
    exact ⟨r1, r2, r3, vs2, by rw [upd_ne ne]; exact r4, r5⟩
  | oi C fs =>
    obtain ⟨r1, r2, r3, dx, gs, r4, r5⟩ := q
    have ne : A j ≠ a := fun y => nh (by rw [← y]; exact r2)
    exact ⟨r1, r2, r3, dx, gs, by rw [upd_ne ne]; exact r4, r5⟩
/-- [e for T in .. if test]: T's names among vs -/
def uLcG (T : Tg) (ut : UT) (ue : UE) (δw : List Sl) : List D → List D → Nat → (Nat → List D → Prop) → Prop
  | [], acc, t, k => k t acc
  | d :: ds, acc, t, k => uT T d δw fun δ2 => ut t δ2 fun t1 b => (b = true → ue t1 δ2 fun t2 e g => g = true ∧ uLcG T ut ue δw ds (acc ++ [e]) t2 k) ∧ (b = false → uLcG T ut ue δw ds acc t1 k)
/-- no object under the making -/
def noOi : Option Sl → Bool
  | some (.oi _ _) => false
  | _ => true
def uLc (ui : UI) (T : Tg) (ut : UT) (ue : UE) (vs : List Nat) : UE := fun t δ P => (vs.all fun i => noOi δ[i]?) = true ∧ ui t δ fun t1 ds _ => ds.length < sizeLine ∧ uLcG T ut ue (wipeD δ vs) ds [] t1 fun t2 out => P t2 (.lst out) true
/-- between two turns -/
def LcInv (c : Ct) (F1 H1 : Hp) (δw : List Sl) (σw : L2.St) (A : Addr) (ds : List D) (T : Tg) (ut : UT) (ue : UE) (k : Nat → List D → Prop) (i : Nat) (Hh : Hp) : Prop :=
  i ≤ ds.length ∧ ∃ F2 t2 acc av, Fits c F2 δw σw Hh t2 ∧ Gro c.hs F1 H1 F2 Hh ∧ F2 A = none ∧ NotOwn δw σw A ∧ Hh A = some (.lst av) ∧ Rps c.K F2 av acc ∧ acc.length ≤ i ∧ uLcG T ut ue δw (ds.drop i) acc t2 k
theorem lc_v {ui : UI} {T : Tg} {ut : UT} {ue : UE} {vs : List Nat} {Q : VK} (hT : ∀ i ∈ T.names, i ∈ vs) (h : tN c (uLc ui T ut ue vs) σ H Q) : tLc (iV c ui) (gOf c.K T) (tT c ut) (tV c ue) vs σ H Q := by
  obtain ⟨F, δ, t, P, f, ⟨uo, u⟩, k⟩ := h
  refine ⟨F, δ, t, _, f, u, fun J B F1 H1 t1 ds g f1 g1 y sb _ ⟨small, u1⟩ => fun A nA => ?_⟩
  obtain ⟨fa, ha, nh⟩ := f1.dn.fresh nA
  have fw := f1.wipe vs
  have no := fw.notOwn nA
  have s0 : Same H1 (upd H1 A (.lst [])) := Same.neu nA
  refine ⟨fun i m Hh => m = ds.length - i ∧ LcInv c F1 H1 (wipeD δ vs) (L2.wipe σ vs) A ds T ut ue (fun t2 out => P t2 (.lst out) true) i Hh,
    ⟨ds.length, by simp, Nat.zero_le _, F1, t1, [], [], fw.newH s0, Gro.same s0, fa, no, upd_same, .nil, Nat.le_refl _, by simpa using u1⟩, ?_⟩
  rintro i m Hh ⟨rfl, hi, F2, t2, acc, av, f2, gb, f2a, no2, hha, r2, la, u2⟩
  have sB : Same B (hid c.hs Hh) := sb.trans gb.sH
  by_cases lt : i < ds.length
  · refine .inr ⟨y.go i Hh sB lt, LcInv c F1 H1 (wipeD δ vs) (L2.wipe σ vs) A ds T ut ue (fun t2 out => P t2 (.lst out) true) (i + 1), fun H' q => ⟨ds.length - (i + 1), by omega, rfl, q⟩, fun x H' yy => ?_⟩
    have e := List.getElem?_eq_getElem lt
    have ed : ds.drop i = ds[i] :: ds.drop (i + 1) := List.drop_eq_getElem_cons lt
    rw [ed] at u2
    simp only [uLcG] at u2
    obtain ⟨F3, f3, g3, r3⟩ := y.yl i Hh x H' F2 _ _ t2 _ sB gb.sF f2 e yy
    refine gT_ok T f3 r3 u2 fun δ2 σ2 f4 w4 u4 => ⟨?_, F3, δ2, t2, _, f4, u4, fun b F5 H5 t5 f5 g5 w5 => ?_⟩
    · rw [(w4 vs hT).1, wipe_idem σ vs vs fun _ h => h]
    · have e1 : L2.wipe σ2 vs = L2.wipe σ vs := by rw [(w4 vs hT).1, wipe_idem σ vs vs fun _ h => h]
      have e2 : wipeD δ2 vs = wipeD δ vs := by rw [(w4 vs hT).2, wipeD_idem δ vs vs fun _ h => h]
      have h3 := g3.still nh hha
      have n3 := g3.not f2a hha
      have h5 := g5.still nh h3
      have n5 := g5.not n3 h3
      have g5' := (gb.trans g3).trans g5
      refine ifM w5 (fun w5 => ⟨F5, δ2, t5, _, f5, w5, fun v F6 H6 t6 d g f6 g6 r6 ⟨hg, u6⟩ => ?_⟩) fun w5 => ?_
      · subst hg
        have r6 : Rp c.K F6 v d := r6
        have h6 := g6.still nh h5
        have n6 := g6.not n5 h5
        have f6' := f6.wipe vs
        rw [e1, e2] at f6'
        refine ⟨av, h6, ?_, by omega, F6, t6, acc ++ [d], av ++ [v], f6'.side n6 ha no2, (g5'.trans g6).side nA, n6, no2, upd_same, (Rps.up ((g3.sF.trans g5.sF).trans g6.sF) r2).app (.cons r6 .nil), by rw [List.length_append, List.length_singleton]; omega, u6⟩
        rw [r2.length]
        omega
      · have f5' := f5.wipe vs
        rw [e1, e2] at f5'
        exact ⟨by omega, F5, t5, acc, av, f5', g5', n5, no2, h5, Rps.up (g3.sF.trans g5.sF) r2, by omega, w5⟩
  · have z : i = ds.length := by omega
    subst z
    rw [List.drop_length] at u2
    simp only [uLcG] at u2
    have hA : H A = none := g1.al A nA
    -- the slots as they were
    refine .inl ⟨y.stop _ Hh sB (Nat.le_refl _), k A av acc F2 Hh t2 true ?_ (g1.trans gb) hA f2a (f1.notOwn nA) hha r2 u2⟩
    -- of the heap at the end and the slots at the start
    obtain ⟨A0, q1, q2⟩ := f1.sl
    obtain ⟨A2, p1, _⟩ := f2.sl
    refine ⟨f2.dn, f1.len, A0, fun i s x e1 e2 => ?_, q2⟩
    have q := q1 i s x e1 e2
    cases s with
    | un => trivial
    | fr d => obtain ⟨v, a, b⟩ := q; exact ⟨v, a, b.up gb.sF⟩
    | ow es =>
      obtain ⟨r1, r2, r3, ws, r4, r5⟩ := q
      exact ⟨r1, gb.not r2 r4, r3, ws, gb.still (fun z => (f1.dn.hd _ z).2 r3) r4, r5.up gb.sF⟩
    | oi C fs =>
      have nv : i ∉ vs := fun z => by
        have := List.all_eq_true.mp uo i z
        rw [e1] at this
        cases this
      have w1 : ∀ ws : List Nat, i ∉ ws → (wipeD δ ws)[i]? = δ[i]? := by
        intro ws
        induction ws with
        | nil => intro _; rfl
        | cons w ws ih =>
          intro n
          show ((wipeD δ ws).set w .un)[i]? = _
          have ne : ¬ w = i := fun z => n (by rw [z]; exact List.mem_cons_self)
          rw [List.getElem?_set, if_neg ne, ih fun z => n (List.mem_cons_of_mem _ z)]
      have w2 : ∀ ws : List Nat, i ∉ ws → (L2.wipe σ ws)[i]? = σ[i]? := by
        intro ws
        induction ws with
        | nil => intro _; rfl
        | cons w ws ih =>
          intro n
          show ((L2.wipe σ ws).set w none)[i]? = _
          have ne : ¬ w = i := fun z => n (by rw [z]; exact List.mem_cons_self)
          rw [List.getElem?_set, if_neg ne, ih fun z => n (List.mem_cons_of_mem _ z)]
      obtain ⟨r1, r2, r3, dx, gs, r4, r5⟩ := p1 i _ x ((w1 vs nv).trans e1) ((w2 vs nv).trans e2)
      obtain ⟨r1', _⟩ := q
      rw [r1'] at r1
      have ea : A0 i = A2 i := by
        have := Option.some.inj r1
        injection this
      rw [← ea] at r2 r3 r4
      exact ⟨r1', r2, r3, dx, gs, r4, r5⟩
section
variable {ui : UI} {T : Tg} {ut : UT} {ue : UE} {elt tg iter : Expr} {ifs : List Expr} {scope : Scope} {own : List (Str × Nat)} {pos : Pos}
theorem vn_lc (hK : X.K = c.K) (hc : X.calm = true) (hN : X.N.Nodup) (hT : ∀ i ∈ T.names, i ∈ own.map (·.2)) (hi : PI X tg iter (iV c ui)) (ok : BlkOk X.N X.env.scope scope own)
    (hg : ∀ (s : Shared) (H : Hp) (C : Addr) (cl : List (Str × Addr)) (fp : List Addr), PG (X.blk s H scope (compEnvC scope cl C X.env) fp) tg (gOf X.K T)) (ht : ∀ (s : Shared) (H : Hp) (C : Addr) (cl : List (Str × Addr)) (fp : List Addr), PTs (X.blk s H scope (compEnvC scope cl C X.env) fp) ifs (tT c ut))
    (he : ∀ (s : Shared) (H : Hp) (C : Addr) (cl : List (Str × Addr)) (fp : List Addr), PE (X.blk s H scope (compEnvC scope cl C X.env) fp) elt (tV c ue)) (hs : ∀ x, foldedSetIterable iter X.env x = pure x := by intro _; rfl) :
    PE X (.ListComp elt [⟨tg, iter, ifs, 0⟩] scope pos) (tN c (uLc ui T ut ue (own.map (·.2)))) := pn_wk (pe_lc hc hN hi ok hg ht he hs) fun σ H Q h => by rw [hK]; exact lc_v hT h
end
/-- no test -/
def uYes : UT := fun t _ P => P t true
theorem vts_nil : PTs X [] (tT c uYes) := ⟨fun pins s σ H Q I ⟨F, δ, t, P, f, u, k⟩ => (pts_nil (X := X)).run pins s σ H Q I (show tYes σ H Q from k true F H t f (Gro.refl _ _ _) u)⟩
theorem vts_one {e : Expr} {ut : UT} (h : PT X e (tT c ut)) : PTs X [e] (tT c ut) := pts_one h
end
end VL

set_option linter.all false
set_option maxRecDepth 100000
set_option maxHeartbeats 4000000
namespace VL
open PySem PySem.Spec PyProof.Rows L2 Nv
/-! # defs and their contracts -/
/-- an own error that is raised: its class, its fields -/
structure Exn where
  cls : Addr
  fs : List (Str × D)
/-- what a def does with trees: the draws, how many of them, the arguments, what is wanted of the answer, of an error -/
abbrev Con := Option (Addr × Addr × List Int) → Nat → List D → (Nat → D → Prop) → (Nat → Exn → Prop) → Prop
def hsm : Option (Addr × Addr × List Int) → List Addr
  | some (L, _, _) => [L]
  | none => []
theorem mem_hsm {m : Option (Addr × Addr × List Int)} {b : Addr} (h : b ∈ hsm m) : ∃ l cs, m = some (b, l, cs) := by
  cases m with
  | none => cases h
  | some x =>
    obtain ⟨L, l, cs⟩ := x
    rw [List.mem_singleton.mp h]
    exact ⟨l, cs, rfl⟩
/-- an error as the layer has it -/
def EXk (c : Ct) (pe : Nat → Exn → Prop) : XK := fun cls d H' => ∃ F' t' a gs e, Done c F' H' t' ∧ cls = .ref e.cls ∧ d = some a ∧ H' a = some (.xd gs) ∧ RpF c.K H' gs e.fs ∧ pe t' e
def spV (K : PySem.W.Frag) (C : Con) : Sp := fun vs H Q E => ∃ c t ds P pe, c.K = K ∧ c.H0 = H ∧ c.hs = hsm c.m ∧ Done c c.F0 H t ∧ Rps K c.F0 vs ds ∧ C c.m t ds P pe ∧ (∀ v F' H' t' d, Done c F' H' t' → Rp K F' v d → P t' d → Q v H') ∧ ∀ cls d H', EXk c pe cls d H' → E cls d H'
section
variable {c : Ct} {F F' H H' : Hp} {δ : List Sl} {σ : L2.St} {t t' : Nat} {g : Bool} {X : Cx}
/-- the context of a call -/
def calleeC (c : Ct) (g : Bool) (F H : Hp) : Ct := ⟨c.K, match g with | true => F | false => hid c.hs H, H, c.m, hsm c.m⟩
theorem hsm_sub (d : Done c F H t) {b : Addr} (h : b ∈ hsm c.m) : b ∈ c.hs := by
  obtain ⟨l, cs, e⟩ := mem_hsm h
  exact (d.mh _ _ _ e).1
theorem Done.call (d : Done c F H t) : Done (calleeC c g F H) (calleeC c g F H).F0 H t where
  gr := Gro.refl _ _ _
  fh := by cases g with
    | true => exact d.fh
    | false => exact hid_same _ _
  hd := fun b hb => by
    have hb' := hsm_sub d hb
    refine ⟨?_, fun z => (d.hd b hb').2 (d.gr.al b z)⟩
    cases g with
    | true => exact (d.hd b hb').1
    | false => show (if b ∈ c.hs then none else H b) = none; rw [if_pos hb']
  mo := d.mo
  mh := fun L l cs e => ⟨by show L ∈ hsm c.m; rw [show c.m = some (L, l, cs) from e]; exact List.mem_singleton.mpr rfl, by
    have := (d.mo L l cs e).cells
    show H l ≠ none
    rw [this]
    exact fun z => nomatch z⟩
theorem Gro.wide {hs hs' : List Addr} (g : Gro hs F H F' H') (h : ∀ b ∈ hs, b ∈ hs') : Gro hs' F H F' H' :=
  ⟨g.sF, fun b o e => by
    obtain ⟨b1, b2⟩ := of_hid e
    exact hid_of b1 (of_hid (g.sH b o (hid_of (fun z => b1 (h b z)) b2))).2, g.nw, g.al⟩
theorem self_call (d : Done c F H t) (s : Same (hid (hsm c.m) H) (hid (hsm c.m) H')) : SelfSame c H H' := fun a ha hm => by
  cases z : H a with
  | none => exact absurd (d.gr.al a z) (d.hd a ha).2
  | some o =>
    refine (of_hid (s a o (hid_of (fun y => ?_) z))).2
    obtain ⟨l, cs, e⟩ := mem_hsm y
    exact hm _ _ _ e rfl
/-- behind a call -/
theorem back_ok (f : Fits c F δ σ H t) {v : V} {d : D} (d2 : Done (calleeC c g F H) F' H' t') (r : Rp c.K F' v d) : ∃ F2, Fits c F2 δ σ H' t' ∧ Gro c.hs F H F2 H' ∧ Rpg c (g || isFlat d) F2 H' v d := by
  have gw : Gro c.hs (calleeC c g F H).F0 H F' H' := d2.gr.wide fun b hb => hsm_sub f.dn hb
  have ss := self_call f.dn d2.gr.sH
  cases g with
  | true =>
    have dn : Done c F' H' t' := f.dn.grow gw d2.fh (fun b hb => by
      cases z : F' b with
      | none => rfl
      | some o =>
        rcases gw.nw b o z with y | y
        · have y : F b = some o := y
          rw [(f.dn.hd b hb).1] at y; cases y
        · exact absurd (f.dn.gr.al b y) (f.dn.hd b hb).2) d2.mo
    refine ⟨F', f.grow gw dn ss, gw, ?_⟩
    rw [Bool.true_or]
    exact r
  | false =>
    have gw2 : Gro c.hs F H F H' := ⟨Same.refl _, gw.sH, fun _ _ h => .inl h, gw.al⟩
    have dn : Done c F H' t' := f.dn.grow gw2 (fun b o e => by
      have := gw.sH b o (f.dn.hidF b o e)
      exact (of_hid this).2) (fun b hb => (f.dn.hd b hb).1) d2.mo
    refine ⟨F, f.grow gw2 dn ss, gw2, ?_⟩
    rw [Bool.false_or]
    cases fl : isFlat d with
    | true => exact r.flat fl
    | false =>
      refine Rp.up (fun b o e => ?_) r
      refine hid_of (fun z => ?_) (d2.fh b o e)
      rcases gw.nw b o e with y | y
      · exact (of_hid y).1 z
      · exact absurd (f.dn.gr.al b y) (f.dn.hd b z).2
/-- an error of a callee is one of the caller -/
theorem err_up (f : Fits c F δ σ H t) {pe : Nat → Exn → Prop} {cls : Value} {d : Option Addr} (h : EXk (calleeC c g F H) pe cls d H') : EXk c pe cls d H' := by
  obtain ⟨F1, t1, a, gs, e, d2, e1, e2, e3, e4, e5⟩ := h
  have gw : Gro c.hs (calleeC c g F H).F0 H F1 H' := d2.gr.wide fun b hb => hsm_sub f.dn hb
  have gw2 : Gro c.hs F H F H' := ⟨Same.refl _, gw.sH, fun _ _ h => .inl h, gw.al⟩
  exact ⟨F, t1, a, gs, e, f.dn.grow gw2 (fun b o e => (of_hid (gw.sH b o (f.dn.hidF b o e))).2) (fun b hb => (f.dn.hd b hb).1) d2.mo, e1, e2, e3, e4, e5⟩
def uCall (m : Option (Addr × Addr × List Int)) (C : Con) (pe : Nat → Exn → Prop) (ua : UA) : UE := fun t δ P => ua t δ fun t1 ds g => C m t1 ds (fun t2 d => P t2 d (g || isFlat d)) pe
theorem call_sp {C : Con} {pe : Nat → Exn → Prop} {vs : List V} {ds : List D} {Q : VK} {P : Nat → D → Bool → Prop} {F0 H0 : Hp} (f : Fits c F δ σ H t) (g0 : Gro c.hs F0 H0 F H) (r : Rpgs c g F H vs ds) (u : C c.m t ds (fun t2 d => P t2 d (g || isFlat d)) pe)
    (k : ∀ v F' H' t' d g, Fits c F' δ σ H' t' → Gro c.hs F0 H0 F' H' → Rpg c g F' H' v d → P t' d g → Q v H') : spV c.K C vs H Q (EXk c pe) :=
  ⟨calleeC c g F H, t, ds, _, pe, rfl, rfl, rfl, f.dn.call, by cases g <;> exact r, u, fun v F' H' t' d d2 r2 p => by
    obtain ⟨F2, f2, g2, r3⟩ := back_ok f d2 r2
    exact k v F2 H' t' d _ f2 (g0.trans g2) r3 p, fun cls d H' h => err_up f h⟩
theorem callW {C : Con} {pe : Nat → Exn → Prop} {ua : UA} {Q : VK} (h : tV c (uCall c.m C pe ua) σ H Q) : tCall (spV c.K C) [] (EXk c pe) (tAr c ua) σ H Q := by
  obtain ⟨F, δ, t, P, f, u, k⟩ := h
  refine ⟨F, δ, t, _, f, u, fun vs F1 H1 t1 ds g f1 g1 r1 u1 => ?_⟩
  show spV c.K C (vs ++ []) H1 Q (EXk c pe)
  rw [List.append_nil]
  exact call_sp f1 g1 r1 u1 k
section
variable {CX : CXT} {k : Nat} {fa : Addr} {fd : FuncData} {ps : List Str} {C : Con} {pe : Nat → Exn → Prop} {x : Str} {p pos : Pos} {e : Expr} {es : List Expr} {ua : UA}
/-- f(e, ..) -/
theorem v_call (hK : X.K = c.K) (G : FnOk X.prog X.w X.K X.mg X.base CX k fa fd ps (spV X.K C)) (hr : Room k X.A) (hg : Gl X x) (hm : X.mg x = some (.ref fa)) (hk : PySem.W.keepIn X.K (.ref fa) = true) (hb : Binds X.K fd ps []) (hx : Passes CX X (EXk c pe)) (ha : PA X (e :: es) (tAr c ua))
    (hdb : (x == ("__debug__" : Str)) = false := by decide) (he : starEach (e :: es) X.env = (false, eval e X.env) :: starEach es X.env := by rfl) (hpl : (backTo pos (starEach es X.env)).any (·.1) = false := by rfl) : PE X (.Call (.Name x p) (e :: es) [] pos) (tV c (uCall c.m C pe ua)) :=
  pe_wk (pe_call G hr hg hm hk hb .nil hx ha hdb he hpl) fun _ _ _ h => by rw [hK]; exact callW h
/-- f() -/
theorem v_call0 (hK : X.K = c.K) (G : FnOk X.prog X.w X.K X.mg X.base CX k fa fd ps (spV X.K C)) (hr : Room k X.A) (hg : Gl X x) (hm : X.mg x = some (.ref fa)) (hk : PySem.W.keepIn X.K (.ref fa) = true) (hb : Binds X.K fd ps []) (hx : Passes CX X (EXk c pe))
    (hdb : (x == ("__debug__" : Str)) = false := by decide) : PE X (.Call (.Name x p) [] [] pos) (tV c (uCall c.m C pe uNil)) :=
  pe_wk (pe_call0 G hr hg hm hk hb .nil hx hdb) fun σ H Q ⟨F, δ, t, P, f, u, k⟩ => by
    rw [hK]
    show spV c.K C ([] ++ []) H Q (EXk c pe)
    exact call_sp (g := true) f (Gro.refl _ _ _) .nil u k
/-- f(e, .., k = v): the values in the parameters' order -/
def uCallN (m : Option (Addr × Addr × List Int)) (C : Con) (pe : Nat → Exn → Prop) (n l : Nat) (gD : List D → List D → List D) (ua uk : UA) : UE := fun t δ P => ua t δ fun t1 ds g => uk t1 δ fun t2 es h => ds.length = n ∧ es.length = l ∧ C m t2 (gD ds es) (fun t3 d => P t3 d ((g && h) || isFlat d)) pe
end
/-- no error: nothing is let out -/
theorem passF {pe : Nat → Exn → Prop} (h : ∀ t e, ¬ pe t e) : Passes (CX X.prog X.w) X (EXk c pe) := fun _ _ _ _ _ _ _ z => by
  obtain ⟨_, _, _, _, _, _, _, _, _, _, _, _, F', t', a, gs, e, _, _, _, _, _, w⟩ := z
  exact (h _ _ w).elim
theorem passC0 {pe : Nat → Exn → Prop} : Passes CX0 X (EXk c pe) := pass0
end
/-! ### a def's body -/
/-- what is wanted behind statements -/
structure VEn where
  nx : Nat → List Sl → Prop
  rt : Nat → D → Prop
  bk : Nat → List Sl → Prop := fun _ _ => False
  ct : Nat → List Sl → Prop := fun _ _ => False
abbrev US := VEn → Nat → List Sl → Prop
structure Lk (c : Ct) (F : Hp) (E : VEn) (D : Ends) : Prop where
  nx : ∀ F' δ' σ' H' t', Fits c F' δ' σ' H' t' → Same F F' → E.nx t' δ' → D.nx σ' H'
  bk : ∀ F' δ' σ' H' t', Fits c F' δ' σ' H' t' → Same F F' → E.bk t' δ' → D.bk σ' H'
  ct : ∀ F' δ' σ' H' t', Fits c F' δ' σ' H' t' → Same F F' → E.ct t' δ' → D.ct σ' H'
  rt : ∀ v F' H' t' d, Done c F' H' t' → Same F F' → Rp c.K F' v d → E.rt t' d → D.rt v H'
theorem Lk.up {c : Ct} {F F1 : Hp} {E : VEn} {D : Ends} (l : Lk c F E D) (s : Same F F1) : Lk c F1 E D :=
  ⟨fun F' δ' σ' H' t' f s' => l.nx F' δ' σ' H' t' f (s.trans s'), fun F' δ' σ' H' t' f s' => l.bk F' δ' σ' H' t' f (s.trans s'), fun F' δ' σ' H' t' f s' => l.ct F' δ' σ' H' t' f (s.trans s'), fun v F' H' t' d f s' => l.rt v F' H' t' d f (s.trans s')⟩
def sV (c : Ct) (u : US) : TS := fun D σ H => ∃ F δ t E, Fits c F δ σ H t ∧ u E t δ ∧ Lk c F E D
def frs0 (ds : List D) (n : Nat) : List Sl := ds.map Sl.fr ++ List.replicate n .un
theorem start_fits {c : Ct} {H : Hp} {t : Nat} {ds : List D} {vs : List V} {N : List Str} (d : Done c c.F0 H t) (r : Rps c.K c.F0 vs ds) : Fits c c.F0 (frs0 ds (N.length - ds.length)) (L2.start N vs) H t := by
  have ln := r.length
  refine ⟨d, ?_, fun _ => 0, fun i s x e1 e2 => ?_, fun i j s u e1 _ o1 _ _ => ?_⟩
  · unfold frs0 L2.start
    rw [List.length_append, List.length_append, List.length_map, List.length_map, List.length_replicate, List.length_replicate, ln]
  · unfold frs0 at e1
    unfold L2.start at e2
    by_cases lt : i < ds.length
    · rw [List.getElem?_append_left (by rw [List.length_map]; exact lt), List.getElem?_map, List.getElem?_eq_getElem lt] at e1
      rw [List.getElem?_append_left (by rw [List.length_map, ln]; exact lt), List.getElem?_map] at e2
      cases e1
      obtain ⟨v, h1, h2⟩ := r.getD (List.getElem?_eq_getElem lt)
      rw [h1] at e2
      cases e2
      exact ⟨v, rfl, h2⟩
    · rw [List.getElem?_append_right (by rw [List.length_map]; omega), List.getElem?_replicate] at e1
      split at e1
      · cases e1; trivial
      · cases e1
  · unfold frs0 at e1
    by_cases lt : i < ds.length
    · rw [List.getElem?_append_left (by rw [List.length_map]; exact lt), List.getElem?_map, List.getElem?_eq_getElem lt] at e1
      cases e1
      cases o1
    · rw [List.getElem?_append_right (by rw [List.length_map]; omega), List.getElem?_replicate] at e1
      split at e1
      · cases e1; cases o1
      · cases e1
section
variable {P : Program} {w : World} {K : PySem.W.Frag} {mg : Str → Option Value} {base : Heap} {x qual : Str} {st : Stmt} {fa : Addr} {fd : FuncData} {N ps : List Str} {k : Nat} {C : Con}
/-- what is wanted behind a def's body -/
def retE (Pq : Nat → D → Prop) : VEn := { nx := fun t _ => Pq t .non, rt := Pq }
/-- a def's contract by its body -/
theorem con_ok (F : Fun K x qual st fa fd) (S : FnScope N ps (defScope st)) (len : ∀ m t ds Pq pe, C m t ds Pq pe → ds.length = ps.length)
    (body : ∀ (c : Ct) (pe : Nat → Exn → Prop) (cdv : Value) (A : Around) (outer : List Env) (s : Shared) (H : Hp) (E : XK), K = c.K → Takes (cxOf (L2.CX P w) P w K mg base N qual (defScope st) fa cdv A outer s H E) (fun cls d _ H' => EXk c pe cls d H') → Passes (L2.CX P w) (cxOf (L2.CX P w) P w K mg base N qual (defScope st) fa cdv A outer s H E) (EXk c pe) → Room k (A.deeper (envOfC qual (defScope st) s.heap.objs.size fa cdv)) →
      ∃ u, PSs (cxOf (L2.CX P w) P w K mg base N qual (defScope st) fa cdv A outer s H E) (defBody st) (sV c u) ∧ ∀ t ds Pq, C c.m t ds Pq pe → u (retE Pq) t (frs0 ds (N.length - ds.length))) : FnOk P w K mg base (L2.CX P w) (k + 1) fa fd ps (spV K C) := by
  refine F.okX S (fun vs H Q E h => ?_) (fun cdv A outer s H vs Q E hr h => ?_)
  · obtain ⟨c, t, ds, Pq, pe, _, _, _, _, r, hC, _⟩ := h
    rw [r.length]
    exact len _ _ _ _ _ hC
  · obtain ⟨c, t, ds, Pq, pe, cK, cH, chs, d, r, hC, q1, q2⟩ := h
    have tk : Takes (cxOf (L2.CX P w) P w K mg base N qual (defScope st) fa cdv A outer s H E) (fun cls d _ H' => EXk c pe cls d H') := (takes_of rfl rfl rfl rfl).imp fun cls dd σ H' z => q2 cls dd H' z
    obtain ⟨u, hu, hw⟩ := body c pe cdv A outer s H E cK.symm tk (passes_call tk fun _ _ _ _ h => h) hr
    refine ⟨_, hu, c.F0, _, t, _, start_fits d (cK ▸ r), hw t ds Pq hC, ?_, ?_, ?_, ?_⟩
    · intro F' δ' σ' H' t' f' _ p
      exact q1 .non F' H' t' .non f'.dn .non p
    · intro F' δ' σ' H' t' f' _ p
      exact p.elim
    · intro F' δ' σ' H' t' f' _ p
      exact p.elim
    · intro v F' H' t' dd d' _ r' p
      exact q1 v F' H' t' dd d' (cK ▸ r') p
end
end VL

set_option linter.all false
set_option maxRecDepth 100000
set_option maxHeartbeats 4000000
namespace VL
open PySem PySem.Spec PyProof.Rows L2 Nv
/-! # statements -/
section
variable {c : Ct} {F F' H H' : Hp} {δ : List Sl} {σ : L2.St} {t t' : Nat} {g : Bool} {X : Cx} {E : VEn} {Dn : Ends}
theorem ps_wkV {st : Stmt} {tt : TS} {u : US} (h : PS X st tt) (w : ∀ D σ H, sV c u D σ H → tt D σ H) : PS X st (sV c u) := ⟨fun pins s σ H D I q => h.run pins s σ H D I (w D σ H q)⟩
theorem pss_wkV {st : List Stmt} {tt : TS} {u : US} (h : PSs X st tt) (w : ∀ D σ H, sV c u D σ H → tt D σ H) : PSs X st (sV c u) := ⟨fun pins s σ H D I q => h.run pins s σ H D I (w D σ H q)⟩
def uNext : US := fun E t δ => E.nx t δ
/-- what follows; it is opened when the slots are told -/
def Later (b : US) : US := fun E t δ => b E t δ
theorem later_cons (b : US) (E : VEn) (t : Nat) (s : Sl) (δ : List Sl) : Later b E t (s :: δ) = b E t (s :: δ) := rfl
def uSeq (a b : US) : US := fun E t δ => a { E with nx := fun t' δ' => Later b E t' δ' } t δ
theorem Lk.next (l : Lk c F E Dn) (f : Fits c F δ σ H t) (p : E.nx t δ) : Dn.nx σ H := l.nx F δ σ H t f (Same.refl _) p
theorem vs_nil : PSs X [] (sV c uNext) := pss_wkV pss_nil fun D σ H ⟨F, δ, t, E, f, u, l⟩ => l.next f u
theorem seqW {a b : US} (h : sV c (uSeq a b) Dn σ H) : tSeq (sV c a) (sV c b) Dn σ H := by
  obtain ⟨F, δ, t, E, f, u, l⟩ := h
  exact ⟨F, δ, t, _, f, u, fun F' δ' σ' H' t' f' s p => ⟨F', δ', t', E, f', p, l.up s⟩, l.bk, l.ct, l.rt⟩
theorem vs_cons {st : Stmt} {rest : List Stmt} {a b : US} (h1 : PS X st (sV c a)) (h2 : PSs X rest (sV c b)) : PSs X (st :: rest) (sV c (uSeq a b)) := pss_wkV (pss_cons h1 h2) fun _ _ _ h => seqW h
theorem vs_one {st : Stmt} {a : US} (h1 : PS X st (sV c a)) : PSs X [st] (sV c a) := pss_one h1
theorem vs_pass {pos : Pos} : PS X (.Pass pos) (sV c uNext) := ps_wkV ps_pass fun D σ H ⟨F, δ, t, E, f, u, l⟩ => l.next f u
def uBreak : US := fun E t δ => E.bk t δ
def uCont : US := fun E t δ => E.ct t δ
theorem vs_break {pos : Pos} : PS X (.Break pos) (sV c uBreak) := ps_wkV ps_break fun D σ H ⟨F, δ, t, E, f, u, l⟩ => l.bk F δ σ H t f (Same.refl _) u
theorem vs_continue {pos : Pos} : PS X (.Continue pos) (sV c uCont) := ps_wkV ps_continue fun D σ H ⟨F, δ, t, E, f, u, l⟩ => l.ct F δ σ H t f (Same.refl _) u
/-! ### own lists are frozen -/
theorem set_self {α : Type} {l : List α} {i : Nat} {s : α} (e : l[i]? = some s) : l.set i s = l := by
  apply List.ext_getElem?
  intro j
  by_cases z : i = j
  · subst z
    rw [List.getElem?_set_self (List.getElem?_eq_some_iff.mp e).1, e]
  · rw [List.getElem?_set_ne z]
theorem set_un {δ : List Sl} {i j : Nat} {s : Sl} (e : (δ.set i .un)[j]? = some s) (o : isOw s = true) : i ≠ j ∧ δ[j]? = some s := by
  by_cases z : i = j
  · subst z
    by_cases l : i < δ.length
    · rw [List.getElem?_set_self l] at e; cases e; cases o
    · rw [List.getElem?_eq_none (by rw [List.length_set]; omega)] at e; cases e
  · rw [List.getElem?_set_ne z] at e; exact ⟨z, e⟩
def frz1 : Sl → Sl
  | .ow ds => .fr (.lst ds)
  | s => s
theorem Fits.frz (f : Fits c F δ σ H t) (i : Nat) : ∃ F', Fits c F' (match δ[i]? with | some s => δ.set i (frz1 s) | none => δ) σ H t ∧ Gro c.hs F H F' H ∨ ∃ ds, δ[i]? = some (.ow ds) ∧ Same F F' ∧ Fits c F' (δ.set i (.fr (.lst ds))) σ H t := by
  cases e : δ[i]? with
  | none => exact ⟨F, .inl ⟨f, Gro.refl _ _ _⟩⟩
  | some s =>
    have l := (List.getElem?_eq_some_iff.mp e).1
    have ss : δ.set i s = δ := set_self e
    cases s with
    | un => exact ⟨F, .inl ⟨by show Fits c F (δ.set i .un) σ H t; rw [ss]; exact f, Gro.refl _ _ _⟩⟩
    | fr d => exact ⟨F, .inl ⟨by show Fits c F (δ.set i (.fr d)) σ H t; rw [ss]; exact f, Gro.refl _ _ _⟩⟩
    | oi C fs => exact ⟨F, .inl ⟨by show Fits c F (δ.set i (.oi C fs)) σ H t; rw [ss]; exact f, Gro.refl _ _ _⟩⟩
    | ow ds =>
      obtain ⟨a, vs, e1, e2, e3, e4, e5, e6, _⟩ := f.own e
      have f1 := f.forget i
      have no : NotOwn (δ.set i .un) σ a := fun j s ej o z => by
        obtain ⟨ne, ej⟩ := set_un ej o
        obtain ⟨A, h1, h2⟩ := f.sl
        have q1 := h1 j s _ ej z
        have q2 := h1 i _ _ e e1
        have a1 : A j = a := by
          cases s with
          | un => cases o
          | fr d => cases o
          | ow ds => have := q1.1; cases this; rfl
          | oi C fs => have := q1.1; cases this; rfl
        have a2 : A i = a := by have := q2.1; cases this; rfl
        exact ne (h2 j i _ _ ej e o rfl (by rw [a1, a2])).symm
      have f2 := f1.freezeN e2 e3 no e5
      have sF : Same F (upd F a (.lst vs)) := Same.neu e2
      have r : Rp c.K (upd F a (.lst vs)) (.ref a) (.lst ds) := .lst upd_same (Rps.up sF e6)
      have f3 := f2.setF i r
      have es : σ.set i (some (.ref a)) = σ := set_self e1
      rw [set_same, es] at f3
      exact ⟨_, .inr ⟨ds, rfl, sF, f3⟩⟩
def frzAll (δ : List Sl) : List Sl := δ.map frz1
theorem Fits.frzN : ∀ (n : Nat) {F : Hp} {δ : List Sl}, Fits c F δ σ H t → (∀ i, n ≤ i → ∀ s, δ[i]? = some s → frz1 s = s) → ∃ F', Same F F' ∧ Fits c F' (frzAll δ) σ H t
  | 0, F, δ, f, h => by
    refine ⟨F, Same.refl _, ?_⟩
    have : frzAll δ = δ := by
      apply List.ext_getElem?
      intro j
      unfold frzAll
      rw [List.getElem?_map]
      cases e : δ[j]? with
      | none => rfl
      | some s => show some (frz1 s) = some s; rw [h j (Nat.zero_le _) s e]
    rw [this]
    exact f
  | n + 1, F, δ, f, h => by
    by_cases ow : ∃ ds, δ[n]? = some (.ow ds)
    · obtain ⟨ds, e⟩ := ow
      obtain ⟨F1, q⟩ := f.frz n
      have key : ∃ F1, Same F F1 ∧ Fits c F1 (δ.set n (.fr (.lst ds))) σ H t := by
        rcases q with ⟨q1, q2⟩ | ⟨ds2, e2, s, q⟩
        · rw [e] at q1
          exact ⟨F1, q2.sF, q1⟩
        · rw [e] at e2; cases e2
          exact ⟨F1, s, q⟩
      obtain ⟨F1, s1, f1⟩ := key
      obtain ⟨F2, s2, f2⟩ := Fits.frzN n f1 (fun i hi s es => by
        rw [List.getElem?_set] at es
        split at es
        · split at es
          · cases es; rfl
          · cases es
        · rename_i ne
          exact h i (by omega) s es)
      refine ⟨F2, s1.trans s2, ?_⟩
      have : frzAll (δ.set n (.fr (.lst ds))) = frzAll δ := by
        unfold frzAll
        apply List.ext_getElem?
        intro j
        rw [List.getElem?_map, List.getElem?_map, List.getElem?_set]
        split
        · rename_i z; subst z; split
          · rw [e]; rfl
          · rw [e]; exact absurd (List.getElem?_eq_some_iff.mp e).1 (by assumption)
        · rfl
      rw [this] at f2
      exact f2
    · exact Fits.frzN n f (fun i hi s es => by
        by_cases z : i = n
        · subst z
          cases s with
          | ow ds => exact absurd ⟨ds, es⟩ ow
          | _ => rfl
        · exact h i (by omega) s es)
theorem Fits.frzAll (f : Fits c F δ σ H t) : ∃ F', Same F F' ∧ Fits c F' (VL.frzAll δ) σ H t := Fits.frzN δ.length f fun i hi s es => by rw [List.getElem?_eq_none hi] at es; cases es
/-- all own lists are frozen, then .. -/
def uFrz (a : US) : US := fun E t δ => a E t (frzAll δ)
theorem vs_frz {st : Stmt} {a : US} (h : PS X st (sV c a)) : PS X st (sV c (uFrz a)) := ps_wkV h fun D σ H ⟨F, δ, t, E, f, u, l⟩ => by
  obtain ⟨F', s, f'⟩ := f.frzAll
  exact ⟨F', _, t, E, f', u, l.up s⟩
/-- one of them -/
def uFrz1 (i : Nat) (a : US) : US := fun E t δ => match δ[i]? with
  | some (.ow ds) => a E t (δ.set i (.fr (.lst ds)))
  | _ => a E t δ
theorem vs_frz1 {st : Stmt} {a : US} (i : Nat) (h : PS X st (sV c a)) : PS X st (sV c (uFrz1 i a)) := ps_wkV h fun D σ H ⟨F, δ, t, E, f, u, l⟩ => by
  unfold uFrz1 at u
  split at u
  · rename_i ds e
    obtain ⟨F', q⟩ := f.frz i
    rcases q with ⟨q1, q2⟩ | ⟨ds2, e2, s, q⟩
    · rw [e] at q1
      exact ⟨F', _, t, E, q1, u, l.up q2.sF⟩
    · rw [e] at e2; cases e2
      exact ⟨F', _, t, E, q, u, l.up s⟩
  · exact ⟨F, δ, t, E, f, u, l⟩
/-! ### return, if -/
def uRet (ue : UE) : US := fun E t δ => ue t δ fun t1 d g => g = true ∧ E.rt t1 d
theorem vs_ret {e : Expr} {pos : Pos} {ue : UE} (he : PE X e (tV c ue)) : PS X (.Return (some e) pos) (sV c (uRet ue)) := ps_wkV (ps_ret he) fun D σ H ⟨F, δ, t, E, f, u, l⟩ =>
  ⟨F, δ, t, _, f, u, fun v F1 H1 t1 d g f1 g1 r ⟨hg, p⟩ => by subst hg; exact l.rt v F1 H1 t1 d f1.dn g1.sF r p⟩
def uRetN : US := fun E t _ => E.rt t .non
theorem vs_retN {pos : Pos} : PS X (.Return none pos) (sV c uRetN) := ps_wkV ps_retN fun D σ H ⟨F, δ, t, E, f, u, l⟩ => l.rt .non F H t .non f.dn (Same.refl _) .non u
def uIf (ut : UT) (a b : US) : US := fun E t δ => ut t δ fun t1 k => (k = true → a E t1 δ) ∧ (k = false → b E t1 δ)
theorem vs_if {cc : Expr} {sa sb : List Stmt} {pos : Pos} {ut : UT} {a b : US} (hc : PT X cc (tT c ut)) (ha : PSs X sa (sV c a)) (hb : PSs X sb (sV c b)) : PS X (.If cc sa sb pos) (sV c (uIf ut a b)) := ps_wkV (ps_if hc ha hb) fun D σ H ⟨F, δ, t, E, f, u, l⟩ =>
  ⟨F, δ, t, _, f, u, fun k F1 H1 t1 f1 g1 w => ifM w (fun w => ⟨F1, δ, t1, E, f1, w, l.up g1.sF⟩) fun w => ⟨F1, δ, t1, E, f1, w, l.up g1.sF⟩⟩
/-! ### names stored -/
def uSet (i : Nat) (ue : UE) : US := fun E t δ => ue t δ fun t1 d g => g = true ∧ E.nx t1 (δ.set i (.fr d))
def uSetO (i : Nat) (ue : UE) : US := fun E t δ => ue t δ fun t1 d _ => match d with
  | .lst ds => E.nx t1 (δ.set i (.ow ds))
  | _ => False
theorem setW {i : Nat} {ue : UE} (h : sV c (uSet i ue) Dn σ H) : tV c ue σ H fun x H1 => gName i x σ H1 Dn.nx := by
  obtain ⟨F, δ, t, E, f, u, l⟩ := h
  exact ⟨F, δ, t, _, f, u, fun v F1 H1 t1 d g f1 g1 r ⟨hg, p⟩ => by subst hg; exact l.nx F1 _ _ H1 t1 (f1.setF i r) g1.sF p⟩
theorem setOW {i : Nat} {ue : UE} (h : sV c (uSetO i ue) Dn σ H) : tN c ue σ H fun x H1 => gName i x σ H1 Dn.nx := by
  obtain ⟨F, δ, t, E, f, u, l⟩ := h
  exact ⟨F, δ, t, _, f, u, fun p vs ds F1 H1 t1 g f1 g1 np fp no e r p1 => l.nx F1 _ _ H1 t1 (f1.setN i fp (f.dn.gr.al p np) no e r) g1.sF p1⟩
section
variable {i : Nat} {x : Str} {e : Expr} {pos pos' : Pos} {ue : UE}
theorem vs_set (hN : X.N.Nodup) (hi : X.N[i]? = some x) (hx : Loc X.env.scope x) (he : PE X e (tV c ue)) (hs : swapsWith e (some (.Name x pos')) pos.line X.env = pure false := by rfl) (hf : X.fn x = true ∨ X.env.scope.names.lookup x = some .local := by first | exact .inl rfl | exact .inr rfl | assumption) :
    PS X (.Assign [.Name x pos'] e pos) (sV c (uSet i ue)) := ps_wkV (ps_set hN hi hx he hs hf) fun _ _ _ h => setW h
theorem vs_setO (hN : X.N.Nodup) (hi : X.N[i]? = some x) (hx : Loc X.env.scope x) (he : PE X e (tN c ue)) (hs : swapsWith e (some (.Name x pos')) pos.line X.env = pure false := by rfl) (hf : X.fn x = true ∨ X.env.scope.names.lookup x = some .local := by first | exact .inl rfl | exact .inr rfl | assumption) :
    PS X (.Assign [.Name x pos'] e pos) (sV c (uSetO i ue)) := ps_wkV (ps_set hN hi hx he hs hf) fun _ _ _ h => setOW h
end
/-- a tuple of names -/
def uAsg (T : Tg) (ue : UE) : US := fun E t δ => ue t δ fun t1 d g => g = true ∧ uT T d δ fun δ' => E.nx t1 δ'
theorem vs_asg {tg e : Expr} {pos : Pos} {T : Tg} {ue : UE} (hK : X.K = c.K) (he : PE X e (tV c ue)) (hg : PG X tg (gOf X.K T)) (hs : swapsWithSole [tg] e pos.line X.env = pure false := by rfl) (hw : swappedStores [tg] e X.env = pure none := by rfl)
    (h1 : (assignEach [tg] X.env).map (·.2) = [assign tg X.env] := by rfl) : PS X (.Assign [tg] e pos) (sV c (uAsg T ue)) := ps_wkV (ps_asg he hg hs hw h1) fun D σ H ⟨F, δ, t, E, f, u, l⟩ =>
  ⟨F, δ, t, _, f, u, fun v F1 H1 t1 d g f1 g1 r ⟨hg, p⟩ => by subst hg; rw [hK]; exact gT_ok T f1 r p fun δ' σ' f' _ q => l.nx F1 δ' σ' H1 t1 f' g1.sF q⟩
/-! ### loops -/
def uForG (T : Tg) (b : US) : List D → VEn → Nat → List Sl → Prop
  | [], E, t, δ => E.nx t δ
  | d :: ds, E, t, δ => uT T d δ fun δ' => b { E with nx := fun t' δ' => uForG T b ds E t' δ', ct := fun t' δ' => uForG T b ds E t' δ', bk := E.nx } t δ'
def uFor (ui : UI) (T : Tg) (b : US) : US := fun E t δ => ui t δ fun t1 ds g => g = true ∧ uForG T b ds E t1 δ
theorem forW {ui : UI} {T : Tg} {b : US} (h : sV c (uFor ui T b) Dn σ H) : tFor (iV c ui) (gOf c.K T) (sV c b) Dn σ H := by
  obtain ⟨F, δ, t, E, f, u, l⟩ := h
  refine ⟨F, δ, t, _, f, u, fun J B F1 H1 t1 ds g f1 g1 y sb sB ⟨hg, w⟩ => ?_⟩
  refine ⟨fun i m σ2 H2 => m = ds.length - i ∧ i ≤ ds.length ∧ ∃ F2 δ2 t2, Fits c F2 δ2 σ2 H2 t2 ∧ Same F1 F2 ∧ uForG T b (ds.drop i) E t2 δ2, ⟨ds.length, by simp, Nat.zero_le _, F1, δ, t1, f1, Same.refl _, by simpa using w⟩, ?_⟩
  rintro i m σ2 H2 ⟨rfl, hi, F2, δ2, t2, f2, s2, w2⟩
  have sB2 : Same B (hid c.hs H2) := ((sB hg).trans s2).trans f2.dn.hidF
  by_cases lt : i < ds.length
  · refine .inr ⟨y.go i H2 sB2 lt, fun σ' H' => (i + 1) ≤ ds.length ∧ ∃ F2 δ2 t2, Fits c F2 δ2 σ' H' t2 ∧ Same F1 F2 ∧ uForG T b (ds.drop (i + 1)) E t2 δ2, fun σ' H' q => ⟨ds.length - (i + 1), by omega, rfl, q⟩, fun x H' yy => ?_⟩
    have e := List.getElem?_eq_getElem lt
    rw [List.drop_eq_getElem_cons lt] at w2
    simp only [uForG] at w2
    obtain ⟨F3, f3, g3, r3⟩ := y.yl i H2 x H' F2 δ2 σ2 t2 _ sB2 s2 f2 e yy
    refine gT_ok T f3 r3 w2 fun δ4 σ4 f4 _ w4 => ⟨F3, δ4, t2, _, f4, w4, ?_⟩
    have s3 := s2.trans g3.sF
    have l3 := l.up (g1.sF.trans s3)
    exact ⟨fun F' δ' σ' H' t' f' s' p => ⟨by omega, F', δ', t', f', s3.trans s', p⟩, fun F' δ' σ' H' t' f' s' p => l3.nx F' δ' σ' H' t' f' s' p, fun F' δ' σ' H' t' f' s' p => ⟨by omega, F', δ', t', f', s3.trans s', p⟩, l3.rt⟩
  · have z : i = ds.length := by omega
    subst z
    rw [List.drop_length] at w2
    simp only [uForG] at w2
    exact .inl ⟨y.stop _ H2 sB2 (Nat.le_refl _), (l.up (g1.sF.trans s2)).next f2 w2⟩
theorem vs_for {tg iter : Expr} {body : List Stmt} {pos : Pos} {ui : UI} {T : Tg} {b : US} (hK : X.K = c.K) (hp : PassesOwn (model X.prog X.w) X.A X.env X.xe) (hc : X.calm = true) (hi : PI X tg iter (iV c ui)) (hg : PG X tg (gOf X.K T)) (hb : PSs X body (sV c b))
    (hs : ∀ x, foldedSetIterable iter X.env x = pure x := by intro _; rfl) : PS X (.For tg iter body [] pos) (sV c (uFor ui T b)) := ps_wkV (ps_for hp hc hi hg hb hs) fun _ _ _ h => by rw [hK]; exact forW h
def uWhile (ut : UT) (b : US) : US := fun E t δ => ∃ W : Nat → Nat → List Sl → Prop, (∃ m, W m t δ) ∧ ∀ m t δ, W m t δ → ut t δ fun t1 k => (k = true → b { E with nx := fun t' δ' => ∃ m', m' < m ∧ W m' t' δ', ct := fun t' δ' => ∃ m', m' < m ∧ W m' t' δ', bk := E.nx } t1 δ) ∧ (k = false → E.nx t1 δ)
theorem whileW {ut : UT} {b : US} (h : sV c (uWhile ut b) Dn σ H) : tWhile (tT c ut) (sV c b) Dn σ H := by
  obtain ⟨F, δ, t, E, f, ⟨W, ⟨m0, w0⟩, turn⟩, l⟩ := h
  refine ⟨fun m σ2 H2 => ∃ F2 δ2 t2, Fits c F2 δ2 σ2 H2 t2 ∧ Same F F2 ∧ W m t2 δ2, ⟨m0, F, δ, t, f, Same.refl _, w0⟩, ?_⟩
  rintro m σ2 H2 ⟨F2, δ2, t2, f2, s2, w2⟩
  refine ⟨F2, δ2, t2, _, f2, turn m t2 δ2 w2, fun k F3 H3 t3 f3 g3 w3 => ifM w3 (fun w3 => ?_) fun w3 => (l.up (s2.trans g3.sF)).next f3 w3⟩
  have s3 := s2.trans g3.sF
  have l3 := l.up s3
  have tt : ∀ F' δ' σ' H' t', Fits c F' δ' σ' H' t' → Same F3 F' → (∃ m', m' < m ∧ W m' t' δ') → ∃ m', m' < m ∧ ∃ F2 δ2 t2, Fits c F2 δ2 σ' H' t2 ∧ Same F F2 ∧ W m' t2 δ2 := fun F' δ' σ' H' t' f' s' ⟨m', lt, w'⟩ => ⟨m', lt, F', δ', t', f', s3.trans s', w'⟩
  exact ⟨fun σ' H' => ∃ m', m' < m ∧ ∃ F2 δ2 t2, Fits c F2 δ2 σ' H' t2 ∧ Same F F2 ∧ W m' t2 δ2, fun σ' H' z => z, F3, δ2, t3, _, f3, w3, tt, fun F' δ' σ' H' t' f' s' p => l3.nx F' δ' σ' H' t' f' s' p, tt, l3.rt⟩
theorem while_i {ut : UT} {b : US} {E : VEn} {t : Nat} {δ : List Sl} (W : Nat → Nat → List Sl → Prop) (m : Nat) (h : W m t δ) (turn : ∀ m t δ, W m t δ → ut t δ fun t1 k => (k = true → b { E with nx := fun t' δ' => ∃ m', m' < m ∧ W m' t' δ', ct := fun t' δ' => ∃ m', m' < m ∧ W m' t' δ', bk := E.nx } t1 δ) ∧ (k = false → E.nx t1 δ)) : uWhile ut b E t δ := ⟨W, ⟨m, h⟩, turn⟩
theorem vs_while {cc : Expr} {body : List Stmt} {pos : Pos} {ut : UT} {b : US} (hp : PassesOwn (model X.prog X.w) X.A X.env X.xe) (hc : PT X cc (tT c ut)) (hb : PSs X body (sV c b)) : PS X (.While cc body [] pos) (sV c (uWhile ut b)) := ps_wkV (ps_while hp hc hb) fun _ _ _ h => whileW h
/-! ### own lists changed -/
def uApp (i : Nat) (ue : UE) : US := fun E t δ => match δ[i]? with
  | some (.ow ds) => ue t δ fun t1 d g => g = true ∧ ds.length < sizeLine ∧ E.nx t1 (δ.set i (.ow (ds ++ [d])))
  | _ => False
theorem appW {i : Nat} {ue : UE} (h : sV c (uApp i ue) Dn σ H) : tDrop (tBM c.K "list" rAppend (tVar i) (tCons (tV c ue) tNil)) Dn σ H := by
  obtain ⟨F, δ, t, E, f, u, l⟩ := h
  unfold uApp at u
  split at u
  · rename_i ds e
    obtain ⟨a, vs, e1, _, _, _, e5, _⟩ := f.own e
    refine ⟨.ref a, e1, .inl ⟨rfl, vs, SqL.of e5⟩, F, δ, t, _, f, u, fun v F1 H1 t1 d g f1 g1 r ⟨hg, sz, p⟩ => ?_⟩
    subst hg
    have r : Rp c.K F1 v d := r
    obtain ⟨a', vs', e1', _, _, _, e5', e6', wr⟩ := f1.own e
    rw [e1] at e1'
    cases e1'
    refine ⟨a, vs', v, rfl, rfl, e5', by rw [e6'.length]; exact sz, l.nx F1 _ _ _ t1 (wr (ds ++ [d]) (vs' ++ [v]) (e6'.app (.cons r .nil))) g1.sF p⟩
  · exact u.elim
def uExt (i : Nat) (ue : UE) : US := fun E t δ => match δ[i]? with
  | some (.ow ds) => ue t δ fun t1 d g => g = true ∧ match d with
    | .lst es => ds.length + es.length ≤ sizeLine ∧ E.nx t1 (δ.set i (.ow (ds ++ es)))
    | _ => False
  | _ => False
theorem extW {i : Nat} {ue : UE} (h : sV c (uExt i ue) Dn σ H) : tDrop (tBM c.K "list" rExtend (tVar i) (tCons (tV c ue) tNil)) Dn σ H := by
  obtain ⟨F, δ, t, E, f, u, l⟩ := h
  unfold uExt at u
  split at u
  · rename_i ds e
    obtain ⟨a, vs, e1, _, _, _, e5, _⟩ := f.own e
    refine ⟨.ref a, e1, .inl ⟨rfl, vs, SqL.of e5⟩, F, δ, t, _, f, u, fun v F1 H1 t1 d g f1 g1 r ⟨hg, w⟩ => ?_⟩
    subst hg
    split at w
    · rename_i es _
      obtain ⟨sz, p⟩ := w
      have r : Rp c.K F1 v (.lst es) := r
      cases r with
      | @lst b zs _ hb rz =>
        obtain ⟨a', vs', e1', _, _, _, e5', e6', wr⟩ := f1.own e
        rw [e1] at e1'
        cases e1'
        refine ⟨a, b, vs', zs, rfl, rfl, e5', f1.dn.fh _ _ hb, by rw [e6'.length, rz.length]; exact sz, l.nx F1 _ _ _ t1 (wr (ds ++ es) (vs' ++ zs) (e6'.app rz)) g1.sF p⟩
    · exact w.elim
  · exact u.elim
/-- x = own.pop() -/
def uPop (j i : Nat) : US := fun E t δ => match δ[i]? with
  | some (.ow ds) => ∃ x, ds[ds.length - 1]? = some x ∧ E.nx t ((δ.set i (.ow ds.dropLast)).set j (.fr x))
  | _ => False
theorem popW {i j : Nat} (h : sV c (uPop j i) Dn σ H) : tAsg (tBM0 c.K "list" rPop (tVar i)) (gName j) Dn σ H := by
  obtain ⟨F, δ, t, E, f, u, l⟩ := h
  unfold uPop at u
  split at u
  · rename_i ds e
    obtain ⟨x, ex, p⟩ := u
    obtain ⟨a, vs, e1, _, _, _, e5, e6, wr⟩ := f.own e
    obtain ⟨v, e7, r⟩ := e6.getD ex
    refine ⟨.ref a, e1, .inl ⟨rfl, vs, SqL.of e5⟩, a, vs, v, rfl, rfl, e5, by rw [e6.length]; exact e7, ?_⟩
    exact l.nx F _ _ _ t ((wr ds.dropLast vs.dropLast e6.dropLast).setF j r) (Same.refl _) p
  · exact u.elim
/-- own[k] = e -/
def uPut (i : Nat) (uk ue : UE) : US := fun E t δ => match δ[i]? with
  | some (.ow ds) => ue t δ fun t1 d g => g = true ∧ uk t1 δ fun t2 k _ => match k with
    | .int n => ∃ j, ixN ds.length n = some j ∧ E.nx t2 (δ.set i (.ow (ds.set j d)))
    | _ => False
  | _ => False
section
variable {e : Expr} {i j : Nat} {p1 p2 p3 : Pos} {ue uk : UE} {x y : Str}
theorem vs_app (hK : X.K = c.K) (ho : PE X (.Name x p1) (tVar i)) (he : PE X e (tV c ue)) (hs : starEach [e] X.env = (false, eval e X.env) :: starEach [] X.env := by rfl)
    (hbase : attributeBase (.Name x p1) "append" X.env (eval (.Name x p1) X.env) = eval (.Name x p1) X.env := by rfl)
    (hfew : ((backTo p3 (starEach [e] X.env)).all (fun x => !x.1) && (backToKw p3 (keywordEach [] X.env)).all (fun x => x.1.isSome) && decide ([e].length + ([] : List Keyword).length + (if ([] : List Keyword).isEmpty then 0 else 1) < 30)) = true := by rfl)
    (hline : (p2.endLine == p3.line) = true := by rfl) {pos : Pos} (hsw : swapsWith (.Call (.Attribute (.Name x p1) "append" p2) [e] [] p3) none pos.line X.env = pure false := by rfl) : PS X (.Expr (.Call (.Attribute (.Name x p1) "append" p2) [e] [] p3) pos) (sV c (uApp i ue)) :=
  ps_wkV (ps_expr (pe_bm PySem.F.plainAttrs_list PySem.F.slot_list_append PySem.F.type_list_append mt_append ho (pa_cons he pa_nil hs) hbase hfew hline hs rfl) hsw) fun D σ H h => by rw [hK]; exact appW h
theorem vs_ext (hK : X.K = c.K) (ho : PE X (.Name x p1) (tVar i)) (he : PE X e (tV c ue)) (hs : starEach [e] X.env = (false, eval e X.env) :: starEach [] X.env := by rfl)
    (hbase : attributeBase (.Name x p1) "extend" X.env (eval (.Name x p1) X.env) = eval (.Name x p1) X.env := by rfl)
    (hfew : ((backTo p3 (starEach [e] X.env)).all (fun x => !x.1) && (backToKw p3 (keywordEach [] X.env)).all (fun x => x.1.isSome) && decide ([e].length + ([] : List Keyword).length + (if ([] : List Keyword).isEmpty then 0 else 1) < 30)) = true := by rfl)
    (hline : (p2.endLine == p3.line) = true := by rfl) {pos : Pos} (hsw : swapsWith (.Call (.Attribute (.Name x p1) "extend" p2) [e] [] p3) none pos.line X.env = pure false := by rfl) : PS X (.Expr (.Call (.Attribute (.Name x p1) "extend" p2) [e] [] p3) pos) (sV c (uExt i ue)) :=
  ps_wkV (ps_expr (pe_bm PySem.F.plainAttrs_list PySem.F.slot_list_extend PySem.F.type_list_extend mt_extend ho (pa_cons he pa_nil hs) hbase hfew hline hs rfl) hsw) fun D σ H h => by rw [hK]; exact extW h
theorem vs_pop (hK : X.K = c.K) (ho : PE X (.Name x p1) (tVar i)) (hN : X.N.Nodup) (hi : X.N[j]? = some y) (hx : Loc X.env.scope y)
    (hbase : attributeBase (.Name x p1) "pop" X.env (eval (.Name x p1) X.env) = eval (.Name x p1) X.env := by rfl) (hline : (p2.endLine == p3.line) = true := by rfl) {pos pos' : Pos}
    (hsw : swapsWith (.Call (.Attribute (.Name x p1) "pop" p2) [] [] p3) (some (.Name y pos')) pos.line X.env = pure false := by rfl) (hf : X.fn y = true ∨ X.env.scope.names.lookup y = some .local := by first | exact .inl rfl | exact .inr rfl | assumption) :
    PS X (.Assign [.Name y pos'] (.Call (.Attribute (.Name x p1) "pop" p2) [] [] p3) pos) (sV c (uPop j i)) :=
  ps_wkV (ps_set hN hi hx (pe_bm0 PySem.F.plainAttrs_list PySem.F.slot_list_pop PySem.F.type_list_pop mt_pop ho hbase hline) hsw hf) fun D σ H h => by rw [hK]; exact popW h
end
/-- n += e, ints -/
def uAug (i : Nat) (op : Int → Int → Int) (ue : UE) : US := fun E t δ => match δ[i]? with
  | some (.fr (.int a)) => ue t δ fun t1 d _ => match d with
    | .int b => E.nx t1 (δ.set i (.fr (.int (op a b))))
    | _ => False
  | _ => False
theorem augW {i : Nat} {op : Int → Int → Int} {ue : UE} (h : sV c (uAug i op ue) Dn σ H) : tAug i (tV c ue) (ipI op) Dn σ H := by
  obtain ⟨F, δ, t, E, f, u, l⟩ := h
  unfold uAug at u
  split at u
  · rename_i a e
    have ln := (List.getElem?_eq_some_iff.mp e).1
    rw [f.len] at ln
    have ex := List.getElem?_eq_getElem ln
    obtain ⟨A, h1, _⟩ := f.sl
    obtain ⟨v, e1, r⟩ := h1 i _ _ e ex
    cases r
    refine ⟨.int a, by rw [ex, e1], F, δ, t, _, f, u, fun v F1 H1 t1 d g f1 g1 r w => ?_⟩
    split at w
    · rename_i b
      rw [r.intE]
      exact ⟨a, b, rfl, rfl, l.nx F1 _ _ H1 t1 (f1.setF i (.int _)) g1.sF w⟩
    · exact w.elim
  · exact u.elim
theorem vs_aug {i : Nat} {x : Str} {e : Expr} {op : Operator} {fo : Int → Int → Int} {pos pos' : Pos} {ue : UE} (hN : X.N.Nodup) (hi : X.N[i]? = some x) (hx : Loc X.env.scope x) (he : PE X e (tV c ue)) (ho : PIp X op (ipI fo)) (hf : X.fn x = true ∨ X.env.scope.names.lookup x = some .local := by first | exact .inl rfl | exact .inr rfl | assumption) :
    PS X (.AugAssign (.Name x pos') op e pos) (sV c (uAug i fo ue)) := ps_wkV (ps_aug hN hi hx he ho hf) fun _ _ _ h => augW h
end
end VL

set_option linter.all false
set_option maxRecDepth 100000
set_option maxHeartbeats 4000000
namespace VL
open PySem PySem.Spec PyProof.Rows L2 Nv
section
variable {c : Ct} {F F' H H' : Hp} {δ : List Sl} {σ : L2.St} {t t' : Nat} {g : Bool} {X : Cx}
/-! # rules by the def's own K -/
theorem o_eq (hK : X.K = c.K) (hu : X.A.units + 64 < cLine) : OpR X (compareOp .Eq) (rEqD c.K) := hK ▸ op_eqD hu
theorem o_ne (hK : X.K = c.K) (hu : X.A.units + 64 < cLine) : OpR X (compareOp .NotEq) (rNeD c.K) := hK ▸ op_neD hu
theorem o_in (hK : X.K = c.K) (hu : X.A.units + 64 < cLine) : OpR X (compareOp .In) (rInR c.K false) := hK ▸ op_inR hu
theorem o_nin (hK : X.K = c.K) (hu : X.A.units + 64 < cLine) : OpR X (compareOp .NotIn) (rInR c.K true) := hK ▸ op_ninR hu
theorem o_ix (hK : X.K = c.K) : IxR X (rIx c.K) := hK ▸ ix_seq
theorem b_len (hK : X.K = c.K) : CallR X (.builtin "len") (rLenSeq c.K) := Nv.cr_lenSeq hK
theorem b_tup (hK : X.K = c.K) : CallR X (.type "tuple") (rTupP c.K) := hK ▸ cr_tupP
theorem b_all (hK : X.K = c.K) (hc : X.calm = true) : CallR X (.builtin "all") (rAll c.K) := hK ▸ cr_all hc
theorem b_any (hK : X.K = c.K) (hc : X.calm = true) : CallR X (.builtin "any") (rAny c.K) := hK ▸ cr_any hc
theorem b_sum (hK : X.K = c.K) (hc : X.calm = true) : CallR X (.builtin "sum") (rSum c.K) := hK ▸ cr_sum hc
theorem b_isi (hK : X.K = c.K) : CallR X (.builtin "isinstance") (rIsi c.K) := hK ▸ call_isi
theorem c_isi (T : String) : CW c (rIsi c.K) (wIsi1 T (isBk fun S => kitB S T)) := c_isi1 (isi_B T)
/-- ints -/
def cYes : Int → Int → Prop := fun _ _ => True
theorem w_lt : W2 c (rI0 fun i j => .bl (decide (i < j))) (wI cYes fun i j => .bl (decide (i < j))) := w_I0 fun _ _ _ => .bl _
theorem w_le : W2 c (rI0 fun i j => .bl (decide (i ≤ j))) (wI cYes fun i j => .bl (decide (i ≤ j))) := w_I0 fun _ _ _ => .bl _
theorem w_gt : W2 c (rI0 fun i j => .bl (decide (j < i))) (wI cYes fun i j => .bl (decide (j < i))) := w_I0 fun _ _ _ => .bl _
theorem w_ge : W2 c (rI0 fun i j => .bl (decide (j ≤ i))) (wI cYes fun i j => .bl (decide (j ≤ i))) := w_I0 fun _ _ _ => .bl _
theorem w_add : W2 c (rI0 fun i j => .int (i + j)) (wI cYes fun i j => .int (i + j)) := w_I0 fun _ _ _ => .int _
theorem w_sub : W2 c (rI0 fun i j => .int (i - j)) (wI cYes fun i j => .int (i - j)) := w_I0 fun _ _ _ => .int _
theorem w_mul : W2 c (rI CMul fun i j => .int (i * j)) (wI CMul fun i j => .int (i * j)) := w_I fun _ _ _ => .int _
theorem w_mod : W2 c (rI (fun _ j => 0 < j) fun i j => .int (i % j)) (wI (fun _ j => 0 < j) fun i j => .int (i % j)) := w_I fun _ _ _ => .int _
theorem w_fdiv : W2 c (rI CDiv fun i j => .int (i / j)) (wI CDiv fun i j => .int (i / j)) := w_I fun _ _ _ => .int _
theorem w_xor : W2 c (rI0 fun i j => .int (Builtin.bitXor i j)) (wI cYes fun i j => .int (Builtin.bitXor i j)) := w_I0 fun _ _ _ => .int _
/-- -n -/
def uNeg (u : UE) : UE := fun t δ P => u t δ fun t1 d _ => match d with
  | .int i => P t1 (.int (-i)) true
  | _ => False
theorem v_neg {a : Expr} {pos : Pos} {u : UE} (h : PE X a (tV c u)) : PE X (.UnaryOp .USub a pos) (tV c (uNeg u)) := pe_wk (pe_un un_neg h) fun σ H Q ⟨F, δ, t, P, f, u, k⟩ => ⟨F, δ, t, _, f, u, fun v F1 H1 t1 d g f1 g1 r w => by
  split at w
  · rename_i i
    exact ⟨i, r.intE, k _ F1 H1 t1 _ true f1 g1 (.int _) w⟩
  · exact w.elim⟩
/-- a tree of the module -/
structure KTree (K : PySem.W.Frag) (mg : Str → Option Value) (x : Str) (a : Addr) (d : D) : Prop where
  m : mg x = some (.ref a)
  r : ∀ F, Rp K F (.ref a) d
theorem v_glob {x : Str} {a : Addr} {d : D} {pos : Pos} (hK : X.K = c.K) (T : KTree X.K X.mg x a d) (hg : Gl X x) (hd : (x == ("__debug__" : Str)) = false := by decide) : PE X (.Name x pos) (tV c (uK d)) := v_K (pe_glob (v := .ref a) hg T.m rfl hd) fun F => hK ▸ T.r F
theorem v_adr {e : Expr} {a : Addr} (h : PE X e (tC (.ref a))) : PE X e (tV c (uK (.adr a))) := v_K h fun _ => .adr a
/-! ### lists put together -/
def wCat : Nat → D → Bool → D → Bool → (Nat → D → Bool → Prop) → Prop := fun t d g e h P => match d, e with
  | .lst ds, .lst es => g = true ∧ h = true ∧ ds.length + es.length ≤ sizeLine ∧ P t (.lst (ds ++ es)) true
  | _, _ => False
theorem vn_cat {a b : Expr} {pos : Pos} {ua ub : UE} (ha : PE X a (tV c ua)) (hb : PE X b (tV c ub)) : PE X (.BinOp a .Add b pos) (tN c (u2 wCat ua ub)) :=
  pn_wk (pe_op op_catN ha hb) fun σ H Q ⟨F, δ, t, P, f, u, k⟩ => ⟨F, δ, t, _, f, u, fun x F1 H1 t1 d g f1 g1 r1 u1 => ⟨F1, δ, t1, _, f1, u1, fun y F2 H2 t2 e h f2 g2 r2 w => by
    unfold wCat at w
    split at w
    · rename_i ds es
      obtain ⟨hg, hh, sz, p⟩ := w
      subst hg hh
      have r1 : Rp c.K F1 x (.lst ds) := r1
      have r2 : Rp c.K F2 y (.lst es) := r2
      cases r1 with
      | lst h1 s1 =>
        cases r2 with
        | lst h2 s2 =>
          refine ⟨_, _, _, _, rfl, rfl, f2.dn.fh _ _ (g2.sF _ _ h1), f2.dn.fh _ _ h2, by rw [s1.length, s2.length]; exact sz, fun q H3 np e s => kN k q _ (ds ++ es) F2 H2 H3 t2 true f2 (g1.trans g2) np e s ((Rps.up g2.sF s1).app s2) p⟩
    · exact w.elim⟩⟩
/-! ### the place in a tuple -/
theorem plain_at {pins : List (Addr × Obj)} {s : Shared} {a : Addr} {xs : List V} (I : Inv X pins σ H s) (h : PlT X.K H a xs) : ∃ (o : Obj) (its : List Value) (n : Nat), s.heap.get? a = some o ∧ o.cls = .type "tuple" ∧ o.dict = none ∧ o.data = .seq its.toArray n ∧ Vals xs its ∧ its.length ≤ sizeLine := by
  rcases h with ⟨o, h, od⟩ | ⟨o, its, n, h1, h2, h3, h4, h5, h6⟩
  · obtain ⟨e, z, us, r, o2, e2, c2, n, d2⟩ := (show ObjOk X.prog X.w H s.heap a (.frz o (.tup xs)) from I.hok a _ h)
    rw [e] at e2
    cases e2
    exact ⟨o, us, n, e, c2, od, d2, r, by rw [← r.length]; exact z⟩
  · exact ⟨o, its.toList, n, I.kIn a o h1, h2, h3, by simpa using h4, h6, by simpa using h5⟩
/-- o.m(e), o a plain tuple -/
def tPM (K : PySem.W.Frag) (r : V → List V → Hp → VK → Prop) (to : TE) (tt : TA) : TE := fun σ H Q => to σ H fun x H1 => (∃ a xs, x = .ref a ∧ PlT K H1 a xs) ∧ tt σ H1 fun ys H2 => r x ys H2 Q
theorem pe_pm {o e : Expr} {to : TE} {tt : TA} {name : Str} {p1 p2 : Pos} {id : String} {r : V → List V → Hp → VK → Prop} (slot : Slot "tuple" name id) (hty : typeOf (.builtin id) = pure (.type "method_descriptor")) (hm : MtR X id r) (ho : PE X o to) (ha : PA X [e] tt)
    (hs : starEach [e] X.env = (false, eval e X.env) :: starEach [] X.env := by rfl) (hbase : attributeBase o name X.env (eval o X.env) = eval o X.env := by rfl) (hline : (p1.endLine == p2.line) = true := by rfl)
    (hfew : ((backTo p2 (starEach [e] X.env)).all (fun x => !x.1) && (backToKw p2 (keywordEach [] X.env)).all (fun x => x.1.isSome) && decide ([e].length + ([] : List Keyword).length + (if ([] : List Keyword).isEmpty then 0 else 1) < 30)) = true := by rfl) :
    PE X (.Call (.Attribute o name p1) [e] [] p2) (tPM X.K r to tt) := by
  constructor
  intro pins s σ H Q I q
  refine wpAny_Call_method_late hbase hfew hline rfl (thn (ho.run pins s σ H _ I q) ?_)
  rintro v s1 ⟨x, H1, I1, r1, ⟨a, xs, rfl, pl⟩, q1⟩
  obtain rfl : v = Value.ref a := r1
  obtain ⟨ob, its, n, e1, e2, e3, _⟩ := plain_at I1 pl
  refine ⟨"tuple", id, PySem.F.plainAttrs_tuple, slot, hty, ⟨ob, e1, e2⟩, fun b z => by cases z; exact ⟨ob, e1, e3⟩, ?_⟩
  have run := ha.run p2 pins s1 σ H1 _ I1 q1
  rw [hs] at run ⊢
  exact Calls.callWith_builtin rfl (Calls.evalArgs_plain (thn run fun us s2 ⟨ys, H2, I2, r2, q2⟩ => hm pins s2 σ H2 (.ref a) ys (.ref a) us Q I2 rfl r2 q2))
/-- t.index(x), data -/
def rTIx (K : PySem.W.Frag) : V → List V → Hp → VK → Prop := fun x ys H Q => ∃ a xs y d ds j, x = .ref a ∧ ys = [y] ∧ PlT K H a xs ∧ DpAll K H xs ds ∧ Dp K H y d ∧ PyData.canLayAll0 ds = true ∧ PyData.depthAll ds ≤ 60 ∧ d.canLay0 = true ∧
  (∃ z, ds[j]? = some z ∧ PyData.eqv z d = true) ∧ (∀ m z, m < j → ds[m]? = some z → PyData.eqv z d = false) ∧ Q (.int (j : Nat)) H
theorem m_tix (hu : X.A.units + 64 < cLine) : MtR X "tuple.index" (rTIx X.K) := by
  intro pins s σ H x ys v us Q I rx rs h
  obtain ⟨a, xs, y, d, ds, j, rfl, rfl, pl, da, dy, s1, s2, s3, ⟨z, ez, hz⟩, no, q⟩ := h
  obtain rfl : v = Value.ref a := rx
  obtain ⟨uy, rfl, ry⟩ := vals1 rs
  obtain ⟨⟨cl, dd, dt, sl⟩, its, n, e1, e2, e3, e4, rv, big⟩ := plain_at I pl
  simp only at e2 e3 e4
  subst e2 e3 e4
  obtain ⟨bs, rd⟩ := Dp.reads I d y uy dy ry
  obtain ⟨as, ra⟩ := Dp.readsAll I ds _ its da rv
  have cnt : its.length = ds.length := SeqAt.ReadsAll.length ds its as ra
  have map_ : its.map (SeqAt.readOf s.heap) = ds := SeqAt.readsAll_map ds its as s1 ra
  have look : ∀ (m : Nat) (hm : m < its.toArray.size) (w : PyData), ds[m]? = some w → SeqAt.readOf s.heap its.toArray[m] = w := fun m hm w hw => by
    have lm : m < its.length := by rw [List.size_toArray] at hm; exact hm
    rw [← map_, List.getElem?_map, List.getElem?_eq_getElem lm] at hw
    have := Option.some.inj hw
    rw [← this, List.getElem_toArray]
  have hj : j < its.toArray.size := by
    have := (List.getElem?_eq_some_iff.mp ez).1
    rw [List.size_toArray]; omega
  refine call_meets PySem.F.slot_tuple_index ⟨_, e1, rfl⟩ PySem.F.entry_tuple_index (PySem.F.args_tuple_index_2 _ _) (TI.tuple_indexAt a its.toArray n none sl uy (fun u => PyData.eqv (SeqAt.readOf s.heap u) d) j hj ?_ ?_)
    ⟨e1, SeqAt.items_eqAt (by simpa using ra) rd s1 s3 (room61 s2 hu), ⟨.int (j : Nat), H, I.tok _, ⟨_, rfl⟩, q⟩⟩
  · show PyData.eqv (SeqAt.readOf s.heap its.toArray[j]) d = true
    rw [look j hj z ez]
    exact hz
  · intro m hm lt
    have lm : m < ds.length := by rw [List.size_toArray] at hm; omega
    have ew := List.getElem?_eq_getElem lm
    show PyData.eqv (SeqAt.readOf s.heap its.toArray[m]) d = false
    rw [look m hm _ ew]
    exact no m _ lt ew
/-- the first place -/
def idxD (d : D) : List D → Option Nat
  | [] => none
  | z :: r => if D.eqv z d then some 0 else (idxD d r).map (· + 1)
theorem idx_some {d : D} : ∀ {ds : List D} {j : Nat}, idxD d ds = some j → (∃ z, ds[j]? = some z ∧ D.eqv z d = true) ∧ ∀ m z, m < j → ds[m]? = some z → D.eqv z d = false
  | z :: r, j, h => by
    unfold idxD at h
    by_cases e : D.eqv z d = true
    · rw [if_pos e] at h
      cases h
      exact ⟨⟨z, rfl, e⟩, fun m w lt => absurd lt (Nat.not_lt_zero _)⟩
    · rw [if_neg e] at h
      cases q : idxD d r with
      | none => rw [q] at h; cases h
      | some i =>
        rw [q] at h
        cases h
        obtain ⟨⟨w, h1, h2⟩, h3⟩ := idx_some q
        refine ⟨⟨w, h1, h2⟩, fun m w lt ew => ?_⟩
        cases m with
        | zero => cases ew; exact Bool.eq_false_iff.mpr e
        | succ m => exact h3 m w (by have lt : m + 1 < i + 1 := lt; omega) ew
def uTIx (u ua : UE) : UE := fun t δ P => u t δ fun t1 d g => match d with
  | .tup ds => ua t1 δ fun t2 e h => D.shps 59 ds = true ∧ D.shp 60 e = true ∧ ∃ j, idxD e ds = some j ∧ P t2 (.int (j : Nat)) true
  | _ => False
theorem v_tix {o e : Expr} {p1 p2 : Pos} {u ua : UE} (hK : X.K = c.K) (hu : X.A.units + 64 < cLine) (ho : PE X o (tV c u)) (ha : PE X e (tV c ua))
    (hs : starEach [e] X.env = (false, eval e X.env) :: starEach [] X.env := by rfl) (hbase : attributeBase o "index" X.env (eval o X.env) = eval o X.env := by rfl) (hline : (p1.endLine == p2.line) = true := by rfl)
    (hfew : ((backTo p2 (starEach [e] X.env)).all (fun x => !x.1) && (backToKw p2 (keywordEach [] X.env)).all (fun x => x.1.isSome) && decide ([e].length + ([] : List Keyword).length + (if ([] : List Keyword).isEmpty then 0 else 1) < 30)) = true := by rfl) :
    PE X (.Call (.Attribute o "index" p1) [e] [] p2) (tV c (uTIx u ua)) :=
  pe_wk (pe_pm PySem.F.slot_tuple_index PySem.F.type_tuple_index (m_tix hu) ho (pa_cons ha pa_nil hs) hs hbase hline hfew) fun σ H Q ⟨F, δ, t, P, f, u, k⟩ => ⟨F, δ, t, _, f, u, fun v F1 H1 t1 d g f1 g1 r w => by
    split at w
    · rename_i ds
      cases (r.all f1) with
      | @tup a xs _ pl rs =>
        refine ⟨⟨a, xs, rfl, by rw [hK]; exact pl⟩, F1, δ, t1, _, f1, w, fun y F2 H2 t2 e h f2 g2 r2 ⟨w1, w2, j, w3, p⟩ => ?_⟩
        have r3 := (r.up g2).all f2
        cases r3 with
        | @tup _ zs _ pl2 rs2 =>
          obtain ⟨s1, s2⟩ := shps_shaped w1
          obtain ⟨⟨z, ez, hz⟩, no⟩ := idx_some w3
          refine ⟨a, zs, y, e.data, D.datas ds, j, rfl, rfl, by rw [hK]; exact pl2, by rw [hK]; exact rs2.dp w1, by rw [hK]; exact (r2.all f2).dp w2, s1, by omega, (shp_shaped w2).1, ⟨z.data, by rw [datas_map, List.getElem?_map, ez]; rfl, hz⟩, fun m q lt eq => ?_, k _ F2 H2 t2 _ true f2 (g1.trans g2) (.int _) p⟩
          rw [datas_map, List.getElem?_map] at eq
          cases em : ds[m]? with
          | none => rw [em] at eq; cases eq
          | some q2 => rw [em] at eq; cases eq; exact no m q2 lt em
    · exact w.elim⟩
end
end VL

set_option linter.all false
set_option maxRecDepth 100000
set_option maxHeartbeats 4000000
namespace VL
open PySem PySem.Spec PyProof.Rows L2 Nv
section
variable {c : Ct} {F F' H H' : Hp} {δ : List Sl} {σ : L2.St} {t t' : Nat} {g : Bool} {X : Cx} {E : VEn} {Dn : Ends}
theorem setNW {i : Nat} {ue : UE} (h : sV c (uSet i ue) Dn σ H) : tN c ue σ H fun x H1 => gName i x σ H1 Dn.nx := by
  obtain ⟨F, δ, t, E, f, u, l⟩ := h
  exact ⟨F, δ, t, _, f, u, fun p vs ds F1 H1 t1 g f1 g1 np fp no e r ⟨hg, p1⟩ => by
    have f2 := f1.freezeN fp (f.dn.gr.al p np) no e
    have sF : Same F1 (upd F1 p (.lst vs)) := Same.neu fp
    exact l.nx _ _ _ H1 t1 (f2.setF i (.lst upd_same (Rps.up sF r))) (g1.sF.trans sF) p1⟩
section
variable {i : Nat} {y : Str} {py : Pos} {ui : UI} {T : Tg} {ut : UT} {ue : UE} {elt tg iter : Expr} {ifs : List Expr} {scope : Scope} {own : List (Str × Nat)} {pos spos : Pos}
theorem vs_setLc (hK : X.K = c.K) (hc : X.calm = true) (hN : X.N.Nodup) (hy : X.N[i]? = some y) (hyl : X.env.scope.names.lookup y = some .local) (hsw : swapsWith (.ListComp elt [⟨tg, iter, ifs, 0⟩] scope pos) (some (.Name y py)) spos.line X.env = pure true) (hT : ∀ i ∈ T.names, i ∈ own.map (·.2)) (hi : PI X tg iter (iV c ui)) (ok : BlkOk X.N X.env.scope scope own)
    (hg : ∀ (s : Shared) (H : Hp) (C : Addr) (cl : List (Str × Addr)) (fp : List Addr), PG (X.blk s H scope (compEnvC scope cl C X.env) fp) tg (gOf X.K T)) (ht : ∀ (s : Shared) (H : Hp) (C : Addr) (cl : List (Str × Addr)) (fp : List Addr), PTs (X.blk s H scope (compEnvC scope cl C X.env) fp) ifs (tT c ut))
    (he : ∀ (s : Shared) (H : Hp) (C : Addr) (cl : List (Str × Addr)) (fp : List Addr), PE (X.blk s H scope (compEnvC scope cl C X.env) fp) elt (tV c ue)) (hs : ∀ x, foldedSetIterable iter X.env x = pure x := by intro _; rfl) :
    PS X (.Assign [.Name y py] (.ListComp elt [⟨tg, iter, ifs, 0⟩] scope pos) spos) (sV c (uSet i (uLc ui T ut ue (own.map (·.2))))) := ps_wkV (ps_setLc (i := i) hc hN hy hyl hsw hi ok hg ht he hs) fun D σ H h => by rw [hK]; exact lc_v hT (setNW h)
theorem vs_setLcO (hK : X.K = c.K) (hc : X.calm = true) (hN : X.N.Nodup) (hy : X.N[i]? = some y) (hyl : X.env.scope.names.lookup y = some .local) (hsw : swapsWith (.ListComp elt [⟨tg, iter, ifs, 0⟩] scope pos) (some (.Name y py)) spos.line X.env = pure true) (hT : ∀ i ∈ T.names, i ∈ own.map (·.2)) (hi : PI X tg iter (iV c ui)) (ok : BlkOk X.N X.env.scope scope own)
    (hg : ∀ (s : Shared) (H : Hp) (C : Addr) (cl : List (Str × Addr)) (fp : List Addr), PG (X.blk s H scope (compEnvC scope cl C X.env) fp) tg (gOf X.K T)) (ht : ∀ (s : Shared) (H : Hp) (C : Addr) (cl : List (Str × Addr)) (fp : List Addr), PTs (X.blk s H scope (compEnvC scope cl C X.env) fp) ifs (tT c ut))
    (he : ∀ (s : Shared) (H : Hp) (C : Addr) (cl : List (Str × Addr)) (fp : List Addr), PE (X.blk s H scope (compEnvC scope cl C X.env) fp) elt (tV c ue)) (hs : ∀ x, foldedSetIterable iter X.env x = pure x := by intro _; rfl) :
    PS X (.Assign [.Name y py] (.ListComp elt [⟨tg, iter, ifs, 0⟩] scope pos) spos) (sV c (uSetO i (uLc ui T ut ue (own.map (·.2))))) := ps_wkV (ps_setLc (i := i) hc hN hy hyl hsw hi ok hg ht he hs) fun D σ H h => by rw [hK]; exact lc_v hT (setOW h)
end
/-! ### raise -/
def uRaise (C : Addr) (f : Str) (pe : Nat → Exn → Prop) (ue : UE) : US := fun E t δ => ue t δ fun t1 d _ => pe t1 ⟨C, [(f, d)]⟩
theorem vs_raise {x f : Str} {C fI : Addr} {fd : FuncData} {qual : Str} {st : Stmt} {ps : List Str} {k : Nat} {e : Expr} {p pos pos' : Pos} {ue : UE} {pe : Nat → Exn → Prop} (hK : X.K = c.K) (hc : X.calm = true) (tk : Takes X (fun cls d _ H' => EXk c pe cls d H')) (Er : ErrC X.K X.mg x C fI fd qual st ps)
    (G : FnOk X.prog X.w X.K X.mg X.base CX0 k fI fd ps (spErr X.K C f)) (no : PySem.W.findIn X.K (.ref C) f = some none) (hr : Room (k + 1) X.A) (hg : Gl X x) (he : PE X e (tV c ue))
    (hdb : (x == ("__debug__" : Str)) = false := by decide) (hs : starEach [e] X.env = (false, eval e X.env) :: starEach [] X.env := by rfl) : PS X (.Raise (some (.Call (.Name x p) [e] [] pos)) none pos') (sV c (uRaise C f pe ue)) :=
  ps_wkV (ps_raise hc tk (pmk_oex Er.O Er.iC Er.tI G hr Er.b .nil pass0 hg Er.m (pa_cons he pa_nil hs) hdb hs rfl)) fun D σ H ⟨F, δ, t, E, ft, u, l⟩ => by
    refine ⟨F, δ, t, _, ft, u, fun v F1 H1 t1 d g f1 g1 r w => ?_⟩
    refine mk_err (σ := σ) (ta := fun _ H2 R => R [v] H2) Er.O no (fun R h => h) fun dd H2 nd ed s => ?_
    have f2 := f1.newH s
    exact ⟨F1, t1, dd, [(f, v)], ⟨C, [(f, d)]⟩, f2.dn, rfl, rfl, ed, .cons (Rp.up s (r.all f1)) .nil, w⟩
/-! ### a, b = x, y -/
def uPar (i j : Nat) (ua ub : UE) : US := fun E t δ => ua t δ fun t1 d g => ub t1 δ fun t2 e h => g = true ∧ h = true ∧ E.nx t2 ((δ.set i (.fr d)).set j (.fr e))
theorem vs_par {i j : Nat} {x y : Str} {a b : Expr} {px py pt pos : Pos} {kt k2 pt2} {ua ub : UE} (hc : X.calm = true) (hN : X.N.Nodup) (hi : X.N[i]? = some x) (hj : X.N[j]? = some y) (hij : i ≠ j) (hx : X.env.scope.names.lookup x = some .local) (hy : X.env.scope.names.lookup y = some .local)
    (ha : PE X a (tV c ua)) (hb : PE X b (tV c ub)) (hw : swappedStores [.Tuple [.Name x px, .Name y py] kt pt] (.Tuple [a, b] k2 pt2) X.env = pure (some [x, y]))
    (hs : swapsWithSole [.Tuple [.Name x px, .Name y py] kt pt] (.Tuple [a, b] k2 pt2) pos.line X.env = pure false := by rfl) (hs1 : starEach [a, b] X.env = (false, eval a X.env) :: starEach [b] X.env := by rfl) (hs2 : starEach [b] X.env = (false, eval b X.env) :: starEach [] X.env := by rfl) :
    PS X (.Assign [.Tuple [.Name x px, .Name y py] kt pt] (.Tuple [a, b] k2 pt2) pos) (sV c (uPar i j ua ub)) :=
  ps_wkV (ps_parN hc hN hi hj hij hx hy (pa_cons ha (pa_cons hb pa_nil hs2) hs1) hw hs) fun D σ H ⟨F, δ, t, E, f, u, l⟩ => ⟨F, δ, t, _, f, u, fun v F1 H1 t1 d g f1 g1 r1 u1 => ⟨F1, δ, t1, _, f1, u1, fun w F2 H2 t2 e h f2 g2 r2 ⟨hg, hh, p⟩ => by
    subst hg hh
    refine ⟨v, w, rfl, fun σ' es => ?_⟩
    subst es
    have r1 : Rp c.K F2 v d := Rp.up g2.sF r1
    exact l.nx F2 _ _ H2 t2 ((f2.setF i r1).setF j r2) (g1.sF.trans g2.sF) p⟩⟩
def uParOO (i j : Nat) (ua ub : UE) : US := fun E t δ => ua t δ fun t1 d _ => ub t1 δ fun t2 e _ => match d, e with
  | .lst ds, .lst es => E.nx t2 ((δ.set i (.ow ds)).set j (.ow es))
  | _, _ => False
theorem vs_parOO {i j : Nat} {x y : Str} {a b : Expr} {px py pt pos : Pos} {kt k2 pt2} {ua ub : UE} (hc : X.calm = true) (hN : X.N.Nodup) (hi : X.N[i]? = some x) (hj : X.N[j]? = some y) (hij : i ≠ j) (hx : X.env.scope.names.lookup x = some .local) (hy : X.env.scope.names.lookup y = some .local)
    (ha : PE X a (tN c ua)) (hb : PE X b (tN c ub)) (hw : swappedStores [.Tuple [.Name x px, .Name y py] kt pt] (.Tuple [a, b] k2 pt2) X.env = pure (some [x, y]))
    (hs : swapsWithSole [.Tuple [.Name x px, .Name y py] kt pt] (.Tuple [a, b] k2 pt2) pos.line X.env = pure false := by rfl) (hs1 : starEach [a, b] X.env = (false, eval a X.env) :: starEach [b] X.env := by rfl) (hs2 : starEach [b] X.env = (false, eval b X.env) :: starEach [] X.env := by rfl) :
    PS X (.Assign [.Tuple [.Name x px, .Name y py] kt pt] (.Tuple [a, b] k2 pt2) pos) (sV c (uParOO i j ua ub)) :=
  ps_wkV (ps_parN hc hN hi hj hij hx hy (pa_cons ha (pa_cons hb pa_nil hs2) hs1) hw hs) fun D σ H ⟨F, δ, t, E, f, u, l⟩ => ⟨F, δ, t, _, f, u, fun p vs ds F1 H1 t1 g f1 g1 np fp no e r1 u1 => ⟨F1, δ, t1, _, f1, u1, fun q ws es F2 H2 t2 h f2 g2 nq fq no2 e2 r2 w => by
    have hp := f.dn.gr.al p np
    have hq := f1.dn.gr.al q nq
    have nh : p ∉ c.hs := fun z => (f.dn.hd p z).2 hp
    have fp2 := g2.not fp e
    have e3 := g2.still nh e
    refine ⟨.ref p, .ref q, rfl, fun σ' es' => ?_⟩
    subst es'
    have f3 := f2.setN i fp2 hp no e3 (Rps.up g2.sF r1)
    refine l.nx F2 _ _ H2 t2 (f3.setN j fq hq (fun m s em o z => ?_) e2 r2) (g1.sF.trans g2.sF) w
    by_cases im : i = m
    · subst im
      have lm := (List.getElem?_eq_some_iff.mp em).1
      rw [List.length_set, f2.len] at lm
      rw [List.getElem?_set_self lm] at z
      have : p = q := by
        have z := Option.some.inj (Option.some.inj z)
        injection z
      rw [this, nq] at e
      cases e
    · rw [List.getElem?_set_ne im] at em z
      exact no2 m s em o z⟩⟩
end
/-! ### words for the reading -/
theorem eqv_int (i j : Int) : D.eqv (.int i) (.int j) = (i == j) := by simp only [D.eqv, D.data, PyData.eqv]
theorem eqv_bl (i j : Bool) : D.eqv (.bl i) (.bl j) = (i == j) := by simp only [D.eqv, D.data, PyData.eqv]
theorem eqv_str (i j : Str) : D.eqv (.str i) (.str j) = (i == j) := by simp only [D.eqv, D.data, PyData.eqv]
theorem shp_int {n : Nat} {i : Int} : D.shp n (.int i) = true := by cases n <;> simp [D.shp]
theorem shp_bl {n : Nat} {i : Bool} : D.shp n (.bl i) = true := by cases n <;> simp [D.shp]
theorem shp_non {n : Nat} : D.shp n .non = true := by cases n <;> simp [D.shp]
theorem rowD_lst (ds : List D) : rowD (.lst ds) = some ds := rfl
theorem rowD_tup (ds : List D) : rowD (.tup ds) = some ds := rfl
theorem rowD_int (i : Int) : rowD (.int i) = none := rfl
theorem xor_f (b : Bool) : (false ^^ b) = b := by cases b <;> rfl
theorem xor_t (b : Bool) : (true ^^ b) = !b := by cases b <;> rfl
theorem kit_tab : (kitB "NoneType" "int" = some false ∧ kitB "bool" "int" = some true ∧ kitB "int" "int" = some true ∧ kitB "str" "int" = some false ∧ kitB "list" "int" = some false ∧ kitB "tuple" "int" = some false) ∧
  (kitB "NoneType" "bool" = some false ∧ kitB "bool" "bool" = some true ∧ kitB "int" "bool" = some false ∧ kitB "str" "bool" = some false ∧ kitB "list" "bool" = some false ∧ kitB "tuple" "bool" = some false) ∧
  (kitB "NoneType" "list" = some false ∧ kitB "bool" "list" = some false ∧ kitB "int" "list" = some false ∧ kitB "str" "list" = some false ∧ kitB "list" "list" = some true ∧ kitB "tuple" "list" = some false) ∧
  (kitB "NoneType" "tuple" = some false ∧ kitB "bool" "tuple" = some false ∧ kitB "int" "tuple" = some false ∧ kitB "str" "tuple" = some false ∧ kitB "list" "tuple" = some false ∧ kitB "tuple" "tuple" = some true) ∧
  (kitB "NoneType" "str" = some false ∧ kitB "bool" "str" = some false ∧ kitB "int" "str" = some false ∧ kitB "str" "str" = some true ∧ kitB "list" "str" = some false ∧ kitB "tuple" "str" = some false) := by decide +kernel
end VL

set_option linter.all false
set_option maxRecDepth 100000
set_option maxHeartbeats 4000000
namespace VL
open PySem PySem.Spec PyProof.Rows L2 Nv
/-! # enumerate of a list or a tuple, the pairs plain -/
theorem meets_enumB {v : Value} {o : Obj} {S : Heap → Prop} (B : Begins v o S) :
    Meets (Builtin.«enumerate.__new__» ⟨[.type "enumerate", v], []⟩) (fun _ R s => S s.heap ∧
      R (.ok (.ret (.ref (s.heap.push o).objs.size))) { s with heap := (s.heap.push o).push { cls := .type "enumerate", data := .fields #[.none, .bool false, .ref s.heap.objs.size, rawInt 0, .none, .none] } }) :=
  .of_wp fun prog w A R s h => by
    obtain ⟨hp, g, d, tk, os⟩ := s; obtain ⟨h1, h⟩ := h
    have hsub := sub_enumerate
    have q1 : ∀ {A' : Around} {E : Value → Shared → Prop} {Q : Value → Shared → Prop}, Q (.ref hp.objs.size) ⟨hp.push o, g, d, tk, os⟩ → wpAny (model prog w) A' (pyIter v) Q E ⟨hp, g, d, tk, os⟩ :=
      fun q => B.iter prog w _ _ ⟨hp, g, d, tk, os⟩ _ h1 q
    wp_walk using q1
    refine wpAny_stack_any fun st => wpAny_pure ?_
    split
    · rename_i c _ _ _ _ _
      cases (c == Value.type "enumerate")
      · wp_walk using q1
        exact ⟨_, rfl, h⟩
      · wp_walk using q1
        exact ⟨_, rfl, h⟩
    · wp_walk using q1
      exact ⟨_, rfl, h⟩
section
variable {prog : Program} {w : World} {A : Around} {E : Value → Shared → Prop} {s : Shared}
theorem call_enumB {v : Value} {o : Obj} {S : Heap → Prop} {Q : Value → Shared → Prop} (B : Begins v o S) (h1 : S s.heap)
    (h : ∀ h', IsEnum h' (s.heap.objs.size + 1) s.heap.objs.size 0 .none → h'.get? s.heap.objs.size = some o → (∀ b o, s.heap.get? b = some o → h'.get? b = some o) → Q (.ref (s.heap.objs.size + 1)) { s with heap := h' }) :
    wpAny (model prog w) A (call (.type "enumerate") [v]) Q E s := by
  refine callType_new F.called_enumerate (by decide) (F.typeCall_enumerate_1 _) (F.newCall_enumerate_1 _) (fun obj => F.args_object_init_2 obj _) F.entry_enumerate_new (meets_enumB B) ⟨h1, ?_⟩
  have hz : (s.heap.push o).objs.size = s.heap.objs.size + 1 := Heap.size_push ..
  show _ ∧ _
  rw [hz]
  have he : IsEnum ((s.heap.push o).push { cls := .type "enumerate", data := .fields #[.none, .bool false, .ref s.heap.objs.size, rawInt 0, .none, .none] }) (s.heap.objs.size + 1) s.heap.objs.size 0 .none := by
    have := Heap.get?_push_size (s.heap.push o) (o := { cls := .type "enumerate", data := .fields #[.none, .bool false, .ref s.heap.objs.size, rawInt 0, .none, .none] }) rfl
    rw [hz] at this; exact this
  exact ⟨⟨_, he, rfl⟩, h _ he (Heap.get?_push_of_some _ (Heap.get?_push_size _ B.free)) fun b o x => Heap.get?_push_of_some _ (Heap.get?_push_of_some _ x)⟩
end
/-- what is walked: what it holds, told by the heap; its iterator -/
structure Src (P : Program) (w : World) (K : PySem.W.Frag) (a : Addr) (SQ : Hp → List V → Prop) (it : Addr) (IT : Nat → Heap → Prop) (IS : Array Value → Heap → Prop) : Prop where
  got : ∀ (X : Cx) pins σ H s xs, X.prog = P → X.w = w → X.K = K → Inv X pins σ H s → SQ H xs → ∃ its : List Value, Vals xs its ∧ IS its.toArray s.heap
  inj : ∀ (X : Cx) pins σ H s xs ys, X.prog = P → X.w = w → X.K = K → Inv X pins σ H s → SQ H xs → SQ H ys → xs = ys
  dr : ∀ A : Around, A.handled = none → a ≠ it → ∀ items : Array Value, Draws P w A it [it, a] items.size (fun i v => items[i]? = some v) (fun i h => IT i h ∧ IS items h)
  keep : ∀ i h h', IT i h → (∀ o, h.get? it = some o → h'.get? it = some o) → IT i h'
  obj : ∀ i h, IT i h → ∃ o, h.get? it = some o ∧ ∀ v, o.data ≠ .cell v
def Ien (SQ : Hp → List V → Prop) (xs : List V) : It :=
  ⟨fun i H => SQ H xs ∧ i < xs.length, fun i H v H' => ∃ T x o, v = .ref T ∧ H T = none ∧ o.dict = none ∧ H' = upd H T (.frz o (.tup [.int (i : Nat), x])) ∧ xs[i]? = some x, fun i H => SQ H xs ∧ xs.length ≤ i⟩
theorem turn_en {P : Program} {w : World} {K : PySem.W.Frag} {elts : List Expr} {kk : Nat} {tpos : Pos} {a e it : Addr} {SQ : Hp → List V → Prop} {IT : Nat → Heap → Prop} {IS : Array Value → Heap → Prop} (S : Src P w K a SQ it IT IS) (xs : List V) (ei : e ≠ it) (ai : a ≠ it) (ae : a ≠ e) :
    Turn P w K (.Tuple elts kk tpos) (Ien SQ xs) [e, it] e (fun i h => (∃ old, IsEnum h e it ((i : Nat) : Int) old) ∧ IT i h ∧ i ≤ xs.length) where
  mem := by simp
  obj := fun i h st b hb => by
    obtain ⟨⟨old, he⟩, hi, _⟩ := st
    have e' : b = e ∨ b = it := by simpa using hb
    rcases e' with z | z
    · rw [z]; exact ⟨_, he, fun v q => nomatch q⟩
    · rw [z]; exact S.obj i h hi
  keep := fun i h h' st k => let ⟨⟨old, he⟩, hi, hl⟩ := st; ⟨⟨old, k e (by simp) _ he⟩, S.keep i h h' hi (fun o q => k it (by simp) o q), hl⟩
  item := by
    intro X hP hw hK hc i pins s σ H E I hf st hg
    obtain ⟨⟨old, he⟩, hit, _⟩ := st
    obtain ⟨hq, lx⟩ := hg
    have hx := List.getElem?_eq_getElem lx
    obtain ⟨its, rv, p⟩ := S.got X pins σ H s xs hP hw hK I hq
    obtain ⟨u, hu, ru⟩ := rv.get hx
    have hel : e < s.heap.objs.size := Heap.lt_size he
    have hil : it < s.heap.objs.size := by obtain ⟨_, q, _⟩ := S.obj _ _ hit; exact Heap.lt_size q
    have ef : e ∉ [it, a] := by simp only [List.mem_cons, List.not_mem_nil, or_false, not_or]; exact ⟨ei, Ne.symm ae⟩
    have li : i < its.toArray.size := by rw [List.size_toArray]; exact (List.getElem?_eq_some_iff.mp hu).1
    refine wpAny_pyNext_enum_itemC (S.dr X.A.in1 (I.ok.hd hc) ai its.toArray) he ⟨hit, p⟩ li ei ef fun y h' tk hy ho st' hT hsz hk => ?_
    have yu : y = u := by
      have hy : its.toArray[i]? = some y := hy
      rw [List.getElem?_toArray, hu] at hy
      exact (Option.some.inj hy).symm
    subst yu
    refine ⟨_, rfl, wpAny_letOwnedTupleGo_enum (s := { s with heap := h', toks := tk + 1 }) ho fun h'' he' sb => ?_⟩
    have hT2 : h''.get? s.heap.objs.size = some { cls := .type "tuple", data := .seq #[.int i tk, y] } := (sb.2 _ (Nat.ne_of_gt hel)).trans hT
    subst hP hw hK
    have new : ObjOk X.prog X.w (upd H s.heap.objs.size (.frz { cls := .type "tuple", data := .seq #[.int i tk, y] } (.tup [.int (i : Nat), xs[i]]))) h'' s.heap.objs.size (.frz { cls := .type "tuple", data := .seq #[.int i tk, y] } (.tup [.int (i : Nat), xs[i]])) :=
      ⟨hT2, by show 2 ≤ sizeLine; decide, [.int i tk, y], .cons ⟨_, rfl⟩ (.cons ru .nil), ⟨_, hT2, rfl, _, rfl⟩⟩
    have I1 : Inv X pins σ (upd H s.heap.objs.size (.frz { cls := .type "tuple", data := .seq #[.int i tk, y] } (.tup [.int (i : Nat), xs[i]]))) { s with heap := h'', toks := tk + 1 } :=
      I.turnedNew (ch := [e, it]) (fun b ob hb q => (sb.2 b (fun z => hb (by simp [z]))).trans (hk b ob (fun z => hb (by simp [z])) (fun z => hb (by simp [z])) q)) hf (Nat.le_refl _) new
    refine ⟨.ref s.heap.objs.size, _, I1, rfl, ⟨_, _, _, rfl, I.hok.fresh (Nat.le_refl _), rfl, rfl, hx⟩, ⟨⟨y, ?_⟩, S.keep _ _ _ st'.1 fun o q => (sb.2 it (Ne.symm ei)).trans q, lx⟩, fun b hb => ?_⟩
    · have e1 : ((i + 1 : Nat) : Int) = (i : Int) + 1 := by omega
      rw [e1]; exact he'
    · have hb' : b < s.heap.objs.size := by
        have e' : b = e ∨ b = it := by simpa using hb
        rcases e' with z | z
        · rw [z]; exact hel
        · rw [z]; exact hil
      rw [upd_ne (Nat.ne_of_lt hb')]
      exact (hf b hb).1
  done := by
    intro X hP hw hK hc i pins s σ H E I hf st hg
    obtain ⟨⟨old, he⟩, hit, l1⟩ := st
    obtain ⟨hq, l2⟩ := hg
    obtain ⟨its, rv, p⟩ := S.got X pins σ H s xs hP hw hK I hq
    obtain ⟨f0, f1, f2, f3, f4, f5⟩ := hf it (by simp)
    have hl := rv.length
    have en : its.toArray.size = i := by rw [List.size_toArray]; omega
    subst hP hw hK
    exact wpAny_pyNext_enum_endD (S.dr X.A.in1 (I.ok.hd hc) ai its.toArray) he ⟨en ▸ hit, p⟩ fun h' eb => ⟨rfl, I.turned (t' := s.toks) (fun b o hb q => eb b o hb q) f0 f1 f3 f4 f5⟩
  self := fun A i s Q E st h => let ⟨⟨_, he⟩, _⟩ := st; wpAny_pyIter_enum he h
theorem src_list {P : Program} {w : World} {K : PySem.W.Frag} (a it : Addr) : Src P w K a (fun H xs => SqL K H a xs) it (fun i h => h.IsListIter it a i) (fun items h => h.IsList a items) where
  got := fun X pins σ H s xs hP hw hK I h => by
    subst hK
    obtain ⟨its, rv, p, _⟩ := I.list h
    exact ⟨its, rv, p.isList⟩
  inj := fun X pins σ H s xs ys hP hw hK I h h2 => by subst hK; exact I.list_inj h h2
  dr := fun A hh ai items => Draws.list hh it a ai items
  keep := fun i h h' st k => st.at fun o q => k o q
  obj := fun i h st => by
    obtain ⟨o, ho, hc, hd⟩ := st
    exact ⟨o, ho, fun v q => by rw [hd] at q; cases q⟩
theorem src_tup {P : Program} {w : World} {K : PySem.W.Frag} (a it : Addr) : Src P w K a (fun H xs => SqT K H a xs) it (fun i h => h.IsTupleIter it a i) (fun items h => h.IsTuple a items) where
  got := fun X pins σ H s xs hP hw hK I h => by
    subst hK
    obtain ⟨its, rv, p, _⟩ := I.tuple h
    exact ⟨its, rv, p⟩
  inj := fun X pins σ H s xs ys hP hw hK I h h2 => by subst hK; exact I.tuple_inj h h2
  dr := fun A hh ai items => Draws.tuple hh it a ai items
  keep := fun i h h' st k => st.at fun o q => k o q
  obj := fun i h st => by
    obtain ⟨o, ho, hc, hd⟩ := st
    exact ⟨o, ho, fun v q => by rw [hd] at q; cases q⟩
def iEn (K : PySem.W.Frag) (te : TE) : TI := fun σ H R => te σ H fun x H1 => ∃ a xs, [x] = [V.ref a] ∧ ((SqL K H1 a xs ∧ R (Ien (fun H xs => SqL K H a xs) xs) H1) ∨ (SqT K H1 a xs ∧ R (Ien (fun H xs => SqT K H a xs) xs) H1))
section
variable {c : Ct} {F F' H H' : Hp} {δ : List Sl} {σ : L2.St} {t t' : Nat} {g : Bool} {X : Cx}
theorem pi_en {e : Expr} {te : TE} {p pos tpos : Pos} {elts : List Expr} {kk : Nat} (hg : Gl X "enumerate") (hm : X.mg "enumerate" = none) (he : PE X e te) (hs : starEach [e] X.env = [(false, eval e X.env)] := by rfl) :
    PI X (.Tuple elts kk tpos) (.Call (.Name "enumerate" p) [e] [] pos) (iEn X.K te) := by
  refine ⟨fun pins s σ H R I h => ?_⟩
  refine Call_ (ld_blt I hg hm boot_enumerate (PyProof.Rows.callWith_type1 (thn ((pa_cons he pa_nil hs).run pos pins s σ H (fun vs H1 => ∃ a xs, vs = [.ref a] ∧ ((SqL X.K H1 a xs ∧ R (Ien (fun H xs => SqL X.K H a xs) xs) H1) ∨ (SqT X.K H1 a xs ∧ R (Ien (fun H xs => SqT X.K H a xs) xs) H1))) I ?_) fun us s1 ⟨vs, H1, I1, r1, q1⟩ => ?_) hs rfl))
  · exact h
  · obtain ⟨a, xs, ex, q⟩ := q1
    subst ex
    cases r1 with
    | cons r rr =>
      cases rr
      cases r
      rcases q with ⟨hq, q⟩ | ⟨hq, q⟩
      · obtain ⟨its, rv, p', hz⟩ := I1.list hq
        have al : a < s1.heap.objs.size := by obtain ⟨o, ho, _⟩ := p'.isList; exact Heap.lt_size ho
        refine call_enumB (begins_list a its.toArray) p'.isList fun h' he hit hk => wpAny_pyIter_enum he ?_
        have I2 : Inv X pins σ H1 { s1 with heap := h' } := I1.kept (t' := s1.toks) hk
        refine ⟨s1.heap.objs.size + 1, [s1.heap.objs.size + 1, s1.heap.objs.size], _, _, H1, rfl, I2, turn_en (src_list a s1.heap.objs.size) xs (Nat.succ_ne_self _) (Nat.ne_of_lt al) (Nat.ne_of_lt (Nat.lt_succ_of_lt al)), ⟨⟨.none, he⟩, ⟨_, hit, rfl, rfl⟩, Nat.zero_le _⟩, fun b hb => ?_, q⟩
        have e' : b = s1.heap.objs.size + 1 ∨ b = s1.heap.objs.size := by simpa using hb
        have hle : s1.heap.objs.size ≤ b := by
          rcases e' with z | z
          · rw [z]; exact Nat.le_add_right _ _
          · rw [z]; exact Nat.le_refl _
        exact I1.fpOk hle (I1.hok.fresh hle)
      · obtain ⟨its, rv, p', hz⟩ := I1.tuple hq
        have p' : s1.heap.IsTuple a its.toArray := p'
        have al : a < s1.heap.objs.size := by obtain ⟨o, ho, _⟩ := p'; exact Heap.lt_size ho
        refine call_enumB (begins_tuple a its.toArray) p' fun h' he hit hk => wpAny_pyIter_enum he ?_
        have I2 : Inv X pins σ H1 { s1 with heap := h' } := I1.kept (t' := s1.toks) hk
        refine ⟨s1.heap.objs.size + 1, [s1.heap.objs.size + 1, s1.heap.objs.size], _, _, H1, rfl, I2, turn_en (src_tup a s1.heap.objs.size) xs (Nat.succ_ne_self _) (Nat.ne_of_lt al) (Nat.ne_of_lt (Nat.lt_succ_of_lt al)), ⟨⟨.none, he⟩, ⟨_, hit, rfl, rfl⟩, Nat.zero_le _⟩, fun b hb => ?_, q⟩
        have e' : b = s1.heap.objs.size + 1 ∨ b = s1.heap.objs.size := by simpa using hb
        have hle : s1.heap.objs.size ≤ b := by
          rcases e' with z | z
          · rw [z]; exact Nat.le_add_right _ _
          · rw [z]; exact Nat.le_refl _
        exact I1.fpOk hle (I1.hok.fresh hle)
/-- enumerate of a frozen list or tuple -/
def enD : Nat → List D → List D
  | _, [] => []
  | n, d :: ds => .tup [.int n, d] :: enD (n + 1) ds
theorem enD_get : ∀ {ds : List D} {n i : Nat} {d : D}, (enD n ds)[i]? = some d → ∃ x, ds[i]? = some x ∧ d = .tup [.int ((n + i : Nat) : Int), x]
  | [], n, i, d, h => by simp [enD] at h
  | x :: ds, n, 0, d, h => by
    simp only [enD, List.getElem?_cons_zero, Option.some.injEq] at h
    exact ⟨x, rfl, by rw [← h]; rfl⟩
  | x :: ds, n, i + 1, d, h => by
    simp only [enD, List.getElem?_cons_succ] at h
    obtain ⟨y, h1, h2⟩ := enD_get h
    exact ⟨y, by simpa using h1, by rw [h2]; congr 3; omega⟩
theorem enD_len : ∀ (ds : List D) (n : Nat), (enD n ds).length = ds.length
  | [], n => rfl
  | x :: ds, n => by simp [enD, enD_len ds]
theorem yld_en {SQ : Hp → List V → Prop} {B : Hp} {xs : List V} {ds : List D} (up : ∀ H2, Same B (hid c.hs H2) → SQ H2 xs) (r : Rps c.K F xs ds) : Yld c (Ien SQ xs) B F (enD 0 ds) where
  go := fun i H2 s l => ⟨up H2 s, by rw [enD_len] at l; rw [r.length]; exact l⟩
  yl := fun i H2 x H' F2 δ σ t d s sf f e y => by
    obtain ⟨T, z, o, rfl, nT, od, rfl, ez⟩ := y
    obtain ⟨d0, e0, rfl⟩ := enD_get e
    obtain ⟨v, e2, r2⟩ := r.getD e0
    rw [ez] at e2
    cases e2
    have fT := (f.dn.fresh nT).1
    refine ⟨_, f.newF nT upd_same (Same.neu nT), Gro.new nT fT (Same.neu nT), ?_⟩
    rw [Nat.zero_add]
    exact .tup (.inl ⟨o, upd_same, od⟩) (.cons (.int _) (.cons (Rp.up (sf.trans (Same.neu fT)) r2) .nil))
  stop := fun i H2 s l => ⟨up H2 s, by rw [enD_len] at l; rw [r.length]; exact l⟩
def uiEnum (u : UE) : UI := fun t δ P => u t δ fun t1 d g => g = true ∧ match rowD d with
  | some ds => P t1 (enD 0 ds) true
  | none => False
theorem vi_enum {e : Expr} {u : UE} {p pos tpos : Pos} {elts : List Expr} {kk : Nat} (hK : X.K = c.K) (hg : Gl X "enumerate") (hm : X.mg "enumerate" = none) (he : PE X e (tV c u)) (hs : starEach [e] X.env = [(false, eval e X.env)] := by rfl) :
    PI X (.Tuple elts kk tpos) (.Call (.Name "enumerate" p) [e] [] pos) (iV c (uiEnum u)) :=
  pi_wk (tt := iEn c.K (tV c u)) (by rw [← hK]; exact pi_en hg hm he hs) fun σ H R ⟨F, δ, t, P, f, u0, k⟩ => ⟨F, δ, t, _, f, u0, fun v F1 H1 t1 d g f1 g1 r w => by
    obtain ⟨rfl, w⟩ := w
    split at w
    · rename_i ds e
      obtain ⟨a, xs, rfl, h, r2⟩ := Rp.row (show Rp c.K F1 v d from r) e
      rcases h with h | h
      · exact ⟨a, xs, rfl, .inl ⟨SqL.of (f1.dn.fh _ _ h), k _ F1 F1 H1 t1 _ true f1 g1 (yld_en (fun H2 s => SqL.of (hid_same _ _ _ _ (s _ _ h))) r2) f1.dn.hidF (fun _ => Same.refl _) w⟩⟩
      · exact ⟨a, xs, rfl, .inr ⟨same_t f1.dn.fh h, k _ F1 F1 H1 t1 _ true f1 g1 (yld_en (fun H2 s => same_t (s.trans (hid_same _ _)) h) r2) f1.dn.hidF (fun _ => Same.refl _) w⟩⟩
    · exact w.elim⟩
end
end VL

set_option linter.all false
set_option maxRecDepth 100000
set_option maxHeartbeats 4000000
namespace VL
open PySem PySem.Spec PyProof.Rows L2 Nv
/-! # calls as statements, own objects -/
def putD (f : Str) (v : D) : List (Str × D) → List (Str × D)
  | [] => [(f, v)]
  | (g, x) :: r => if g = f then (g, v) :: r else (g, x) :: putD f v r
section
variable {c : Ct} {F F' H H' : Hp} {δ : List Sl} {σ : L2.St} {t t' : Nat} {g : Bool} {X : Cx} {E : VEn} {Dn : Ends}
def uExpr (ue : UE) : US := fun E t δ => ue t δ fun t1 _ _ => E.nx t1 δ
theorem vs_expr {e : Expr} {pos : Pos} {ue : UE} (he : PE X e (tV c ue)) (hs : swapsWith e none pos.line X.env = pure false := by rfl) : PS X (.Expr e pos) (sV c (uExpr ue)) := ps_wkV (ps_expr he hs) fun D σ H ⟨F, δ, t, E, f, u, l⟩ =>
  ⟨F, δ, t, _, f, u, fun v F1 H1 t1 d g f1 g1 r w => l.nx F1 δ σ H1 t1 f1 g1.sF w⟩
theorem RpF.put {K : PySem.W.Frag} {n : Str} {v : V} {d : D} (r : Rp K F v d) : ∀ {vs : List (Str × V)} {ds : List (Str × D)}, RpF K F vs ds → RpF K F (putF n v vs) (putD n d ds)
  | _, _, .nil => .cons r .nil
  | _, _, .cons (n := k) h t => by
    unfold putF putD
    split
    · exact .cons r t
    · exact .cons h (RpF.put r t)
theorem RpF.length {K : PySem.W.Frag} : ∀ {vs : List (Str × V)} {ds : List (Str × D)}, RpF K F vs ds → vs.length = ds.length
  | _, _, .nil => rfl
  | _, _, .cons _ t => by rw [List.length_cons, List.length_cons, t.length]
/-- the object of a slot is written -/
theorem Fits.oiPut (f : Fits c F δ σ H t) {i : Nat} {C : Addr} {fs : List (Str × D)} (e : δ[i]? = some (.oi C fs)) : ∃ a dx gs, σ[i]? = some (some (.ref a)) ∧ H a = some (.ins C dx gs) ∧ RpF c.K F gs fs ∧ ∀ gs' fs', RpF c.K F gs' fs' → Fits c F (δ.set i (.oi C fs')) σ (upd H a (.ins C dx gs')) t := by
  obtain ⟨A, h1, h2⟩ := f.sl
  have l := (List.getElem?_eq_some_iff.mp e).1
  rw [f.len] at l
  have ex := List.getElem?_eq_getElem l
  obtain ⟨q1, q2, q3, dx, gs, q4, q5⟩ := h1 i _ _ e ex
  refine ⟨A i, dx, gs, by rw [ex, q1], q4, q5, fun gs' fs' r => ?_⟩
  have d : Done c F (upd H (A i) (.ins C dx gs')) t := by
    refine ⟨⟨f.dn.gr.sF, fun b o h => ?_, f.dn.gr.nw, fun b h => ?_⟩, fun b o h => ?_, f.dn.hd, fun L l cs z => ?_, f.dn.mh⟩
    · obtain ⟨b1, b2⟩ := of_hid h
      have ne : b ≠ A i := fun z => b1 (z ▸ q2)
      refine hid_of b1 ?_
      rw [upd_ne ne]
      exact (of_hid (f.dn.gr.sH b o h)).2
    · by_cases z : b = A i
      · rw [z, upd_same] at h; cases h
      · rw [upd_ne z] at h; exact f.dn.gr.al b h
    · rw [upd_ne (fun z => by rw [z, (f.dn.hd _ q2).1] at h; cases h)]
      exact f.dn.fh b o h
    · have la := f.dn.mo L l cs z
      refine la.upd (q3 L l cs z) (fun y => ?_)
      rw [y, la.cells] at q4
      cases q4
  refine ⟨d, by rw [List.length_set]; exact f.len, A, fun j u x e1 e2 => ?_, fun j k u w e1 e2 o1 o2 q => ?_⟩
  · rw [List.getElem?_set] at e1
    by_cases z : i = j
    · subst z
      rw [if_pos rfl] at e1
      split at e1
      · cases e1
        rw [ex] at e2
        cases e2
        exact ⟨q1, q2, q3, dx, gs', upd_same, r⟩
      · cases e1
    · rw [if_neg z] at e1
      have q := h1 j u x e1 e2
      cases u with
      | un => trivial
      | fr d => exact q
      | ow es2 =>
        obtain ⟨r1, r2, r3, vs2, r4, r5⟩ := q
        exact ⟨r1, r2, r3, vs2, by rw [upd_ne (fun y => z (h2 j i _ _ e1 e rfl rfl y).symm)]; exact r4, r5⟩
      | oi C2 fs2 =>
        obtain ⟨r1, r2, r3, dx2, gs2, r4, r5⟩ := q
        exact ⟨r1, r2, r3, dx2, gs2, by rw [upd_ne (fun y => z (h2 j i _ _ e1 e rfl rfl y).symm)]; exact r4, r5⟩
  · have g : ∀ {j : Nat} {u : Sl}, (δ.set i (.oi C fs'))[j]? = some u → isOw u = true → ∃ u0, δ[j]? = some u0 ∧ isOw u0 = true := fun {j u} e1 o1 => by
      rw [List.getElem?_set] at e1
      split at e1
      · rename_i z
        exact ⟨_, z ▸ e, rfl⟩
      · exact ⟨_, e1, o1⟩
    obtain ⟨_, g1, g2⟩ := g e1 o1
    obtain ⟨_, g3, g4⟩ := g e2 o2
    exact h2 j k _ _ g1 g3 g2 g4 q
/-- self.f = e -/
def uAttr (i : Nat) (C : Addr) (f : Str) (ue : UE) : US := fun E t δ => ue t δ fun t1 d g => g = true ∧ match δ[i]? with
  | some (.oi C' fs) => C' = C ∧ fs.length < 1000 ∧ E.nx t1 (δ.set i (.oi C (putD f d fs)))
  | _ => False
theorem vs_attr {e o : Expr} {f : Str} {pos pos' : Pos} {i : Nat} {C : Addr} {ue : UE} (hK : X.K = c.K) (cl : Cls X.K C) (na : NoAttr X.K C f) (ho : PE X o (tVar i)) (he : PE X e (tV c ue)) (hs : swapsWith e (some (.Attribute o f pos')) pos.line X.env = pure false) :
    PS X (.Assign [.Attribute o f pos'] e pos) (sV c (uAttr i C f ue)) := ps_wkV (ps_fld ho he hs) fun D σ H ⟨F, δ, t, E, ft, u, l⟩ => ⟨F, δ, t, _, ft, u, fun v F1 H1 t1 d g f1 g1 r ⟨hg, w⟩ => by
    subst hg
    split at w
    · rename_i C' fs e1
      obtain ⟨rfl, sz, p⟩ := w
      obtain ⟨a, dx, gs, q1, q2, q3, wr⟩ := f1.oiPut e1
      exact ⟨_, q1, a, C', dx, gs, rfl, q2, cl, na, by rw [q3.length]; exact sz, l.nx F1 _ _ _ t1 (wr _ _ (RpF.put r q3)) g1.sF p⟩
    · exact w.elim⟩
/-! ### an __init__ -/
def spI (K : PySem.W.Frag) (C : Addr) (CI : Con) : Sp := fun vs H Q E => ∃ c t ws ds P pe p dx, vs = .ref p :: ws ∧ c.K = K ∧ c.H0 = H ∧ c.hs = p :: hsm c.m ∧ H p = some (.ins C dx []) ∧ Done c c.F0 H t ∧ (∀ L l cs, c.m = some (L, l, cs) → p ≠ L) ∧ Rps K c.F0 ws ds ∧ CI c.m t ds P pe ∧
  (∀ F' H' t' dx' gs fs, Done c F' H' t' → H' p = some (.ins C dx' gs) → RpF K F' gs fs → P t' (.ins C fs) → Q .non H') ∧ ∀ cls d H', EXk c pe cls d H' → E cls d H'
def iNx (C : Addr) (Pq : Nat → D → Prop) (t : Nat) (δ : List Sl) : Prop := match δ[(0 : Nat)]? with
  | some (.oi C' fs) => C' = C ∧ Pq t (.ins C fs)
  | _ => False
def initE (C : Addr) (Pq : Nat → D → Prop) : VEn := { nx := iNx C Pq, rt := fun _ _ => False }
end
section
variable {P : Program} {w : World} {K : PySem.W.Frag} {mg : Str → Option Value} {base : Heap} {x qual : Str} {st : Stmt} {fa : Addr} {fd : FuncData} {N ps : List Str} {k : Nat} {C : Addr} {CI : Con}
theorem start_self {c : Ct} {H : Hp} {t : Nat} {ds : List D} {vs : List V} {N : List Str} {p dx : Addr} (d : Done c c.F0 H t) (hp : H p = some (.ins C dx [])) (mp : p ∈ c.hs) (np : ∀ L l cs, c.m = some (L, l, cs) → p ≠ L) (r : Rps c.K c.F0 vs ds) : Fits c c.F0 (.oi C [] :: frs0 ds (N.length - (ds.length + 1))) (L2.start N (.ref p :: vs)) H t := by
  have ln := r.length
  have e0 : L2.start N (.ref p :: vs) = some (.ref p) :: (vs.map some ++ List.replicate (N.length - (vs.length + 1)) none) := by
    unfold L2.start
    rw [List.map_cons, List.cons_append, List.length_cons]
  rw [e0, ln]
  refine ⟨d, ?_, fun _ => p, fun i s x e1 e2 => ?_, fun i j s u e1 e2 o1 o2 _ => ?_⟩
  · unfold frs0
    rw [List.length_cons, List.length_cons, List.length_append, List.length_append, List.length_map, List.length_map, List.length_replicate, List.length_replicate, ln]
  · cases i with
    | zero =>
      cases e1
      cases e2
      exact ⟨rfl, mp, np, dx, [], hp, .nil⟩
    | succ i =>
      rw [List.getElem?_cons_succ] at e1 e2
      unfold frs0 at e1
      by_cases lt : i < ds.length
      · rw [List.getElem?_append_left (by rw [List.length_map]; exact lt), List.getElem?_map, List.getElem?_eq_getElem lt] at e1
        rw [List.getElem?_append_left (by rw [List.length_map, ln]; exact lt), List.getElem?_map] at e2
        cases e1
        obtain ⟨v, h1, h2⟩ := r.getD (List.getElem?_eq_getElem lt)
        rw [h1] at e2
        cases e2
        exact ⟨v, rfl, h2⟩
      · rw [List.getElem?_append_right (by rw [List.length_map]; omega), List.getElem?_replicate] at e1
        split at e1
        · cases e1; trivial
        · cases e1
  · have no : ∀ {i : Nat} {s : Sl}, (Sl.oi C [] :: frs0 ds (N.length - (ds.length + 1)))[i]? = some s → isOw s = true → i = 0 := fun {i s} e o => by
      cases i with
      | zero => rfl
      | succ i =>
        rw [List.getElem?_cons_succ] at e
        unfold frs0 at e
        by_cases lt : i < ds.length
        · rw [List.getElem?_append_left (by rw [List.length_map]; exact lt), List.getElem?_map, List.getElem?_eq_getElem lt] at e
          cases e
          cases o
        · rw [List.getElem?_append_right (by rw [List.length_map]; omega), List.getElem?_replicate] at e
          split at e
          · cases e; cases o
          · cases e
    rw [no e1 o1, no e2 o2]
theorem con_init (F : Fun K x qual st fa fd) (S : FnScope N ps (defScope st)) (len : ∀ m t ds Pq pe, CI m t ds Pq pe → ds.length + 1 = ps.length)
    (body : ∀ (c : Ct) (pe : Nat → Exn → Prop) (cdv : Value) (A : Around) (outer : List Env) (s : Shared) (H : Hp) (E : XK), K = c.K → Takes (cxOf (L2.CX P w) P w K mg base N qual (defScope st) fa cdv A outer s H E) (fun cls d _ H' => EXk c pe cls d H') → Passes (L2.CX P w) (cxOf (L2.CX P w) P w K mg base N qual (defScope st) fa cdv A outer s H E) (EXk c pe) → Room k (A.deeper (envOfC qual (defScope st) s.heap.objs.size fa cdv)) →
      ∃ u, PSs (cxOf (L2.CX P w) P w K mg base N qual (defScope st) fa cdv A outer s H E) (defBody st) (sV c u) ∧ ∀ t ds Pq, CI c.m t ds Pq pe → u (initE C Pq) t (.oi C [] :: frs0 ds (N.length - (ds.length + 1)))) : FnOk P w K mg base (L2.CX P w) (k + 1) fa fd ps (spI K C CI) := by
  refine F.okX S (fun vs H Q E h => ?_) (fun cdv A outer s H vs Q E hr h => ?_)
  · obtain ⟨c, t, ws, ds, Pq, pe, p, dx, rfl, _, _, _, _, _, _, r, hC, _⟩ := h
    rw [List.length_cons, r.length]
    exact len _ _ _ _ _ hC
  · obtain ⟨c, t, ws, ds, Pq, pe, p, dx, rfl, cK, cH, chs, hp, d, np, r, hC, q1, q2⟩ := h
    have tk : Takes (cxOf (L2.CX P w) P w K mg base N qual (defScope st) fa cdv A outer s H E) (fun cls d _ H' => EXk c pe cls d H') := (takes_of rfl rfl rfl rfl).imp fun cls dd σ H' z => q2 cls dd H' z
    obtain ⟨u, hu, hw⟩ := body c pe cdv A outer s H E cK.symm tk (passes_call tk fun _ _ _ _ h => h) hr
    refine ⟨_, hu, c.F0, _, t, _, start_self d hp (by rw [chs]; exact List.mem_cons_self) np (cK ▸ r), hw t ds Pq hC, ?_, ?_, ?_, ?_⟩
    · intro F' δ' σ' H' t' f' _ p1
      have p1 : iNx C Pq t' δ' := p1
      unfold iNx at p1
      split at p1
      · rename_i C' fs e1
        obtain ⟨rfl, p1⟩ := p1
        obtain ⟨a, dx', gs, z1, z2, z3, z4, z5⟩ := f'.oiE e1
        have ap : a = p := by
          rw [chs] at z2
          rcases List.mem_cons.mp z2 with y | y
          · exact y
          · obtain ⟨l, cs, e⟩ := mem_hsm y
            exact absurd rfl (z3 _ _ _ e)
        subst ap
        exact q1 F' H' t' dx' gs fs f'.dn z4 (cK ▸ z5) p1
      · exact p1.elim
    · intro F' δ' σ' H' t' f' _ p
      exact p.elim
    · intro F' δ' σ' H' t' f' _ p
      exact p.elim
    · intro v F' H' t' dd d' _ r' p
      exact p.elim
end
section
variable {c : Ct} {F F' H H' : Hp} {δ : List Sl} {σ : L2.St} {t t' : Nat} {g : Bool} {X : Cx}
/-! ### an instance is made -/
def uMake (m : Option (Addr × Addr × List Int)) (CI : Con) (dd : List D) (pe : Nat → Exn → Prop) (ua : UA) : UE := fun t δ P => ua t δ fun t1 ds g => g = true ∧ CI m t1 (ds ++ dd) (fun t2 d => P t2 d true) pe
theorem makeW {C : Addr} {CI : Con} {dd : List D} {dvs : List V} {pe : Nat → Exn → Prop} {ua : UA} {Q : VK} (hd : ∀ F, Rps c.K F dvs dd) (h : tV c (uMake c.m CI dd pe ua) σ H Q) : tMake C (spI c.K C CI) dvs (EXk c pe) (tAr c ua) σ H Q := by
  obtain ⟨F0, δ, t0, P, f0, u, k⟩ := h
  refine ⟨F0, δ, t0, _, f0, u, fun vs F H t ds g f g0 r ⟨hg, u1⟩ x dx nx nd ne => ?_⟩
  subst hg
  have r : Rps c.K F vs ds := r
  have s1 : Same H (upd (upd H dx (.own x)) x (.ins C dx [])) := (Same.neu nd).trans (Same.neu (by rw [upd_ne ne.symm]; exact nx))
  generalize eH1 : upd (upd H dx (.own x)) x (HO.ins C dx []) = H1 at s1
  have hx1 : H1 x = some (.ins C dx []) := by rw [← eH1]; exact upd_same
  have back : ∀ b, H1 b = none → H b = none := fun b e => by
    cases z : H b with
    | none => rfl
    | some o => rw [s1 b o z] at e; cases e
  have f1 := f.newH s1
  obtain ⟨fx, f0x, fhx⟩ := f.dn.fresh nx
  have xL : ∀ L l cs, c.m = some (L, l, cs) → x ≠ L := fun L l cs e y => fhx (y ▸ (f.dn.mh L l cs e).1)
  have dc : Done ⟨c.K, F, H1, c.m, x :: hsm c.m⟩ F H1 t := by
    refine ⟨Gro.refl _ _ _, f1.dn.fh, fun b hb => ?_, f1.dn.mo, fun L l cs e => ⟨List.mem_cons_of_mem _ ?_, ?_⟩⟩
    · rcases List.mem_cons.mp hb with z | z
      · rw [z]; exact ⟨fx, fun y => by rw [show H1 x = none from y] at hx1; cases hx1⟩
      · have z' := hsm_sub f.dn z
        exact ⟨(f.dn.hd b z').1, fun y => (f.dn.hd b z').2 (f.dn.gr.al b (back b y))⟩
    · show L ∈ hsm c.m
      rw [show c.m = some (L, l, cs) from e]
      exact List.mem_singleton.mpr rfl
    · have := (f1.dn.mo L l cs e).cells
      show H1 l ≠ none
      rw [this]
      exact fun z => nomatch z
  -- what is seen from outside
  have out : ∀ {F' H' t'}, Done ⟨c.K, F, H1, c.m, x :: hsm c.m⟩ F' H' t' → Gro c.hs F H F' H' ∧ ∀ b, b ∈ c.hs → F' b = none := fun {F' H' t'} d2 => by
    refine ⟨⟨d2.gr.sF, fun b o h => ?_, fun b o h => ?_, fun b h => back b (d2.gr.al b h)⟩, fun b hb => ?_⟩
    · obtain ⟨b1, b2⟩ := of_hid h
      have nb : b ∉ x :: hsm c.m := fun z => by
        rcases List.mem_cons.mp z with y | y
        · rw [y, nx] at b2; cases b2
        · exact b1 (hsm_sub f.dn y)
      exact hid_of b1 (of_hid (d2.gr.sH b o (hid_of nb (s1 b o b2)))).2
    · rcases d2.gr.nw b o h with y | y
      · exact .inl y
      · exact .inr (back b y)
    · cases z : F' b with
      | none => rfl
      | some o =>
        rcases d2.gr.nw b o z with y | y
        · have y : F b = some o := y
          rw [(f.dn.hd b hb).1] at y; cases y
        · exact absurd (f.dn.gr.al b (back b y)) (f.dn.hd b hb).2
  refine ⟨⟨c.K, F, H1, c.m, x :: hsm c.m⟩, t, vs ++ dvs, ds ++ dd, _, pe, x, dx, rfl, rfl, rfl, rfl, hx1, dc, xL, r.app (hd F), u1, fun F' H' t' dx' gs fs d2 hx2 r2 p => ⟨rfl, ?_⟩, fun cls d H' e => ?_⟩
  · obtain ⟨g1, h1⟩ := out d2
    have fx' : F' x = none := (d2.hd x List.mem_cons_self).1
    have sF : Same F' (upd F' x (.ins C dx' gs)) := Same.neu fx'
    have g2 : Gro c.hs F H (upd F' x (.ins C dx' gs)) H' := ⟨g1.sF.trans sF, g1.sH, fun b o h => by
      by_cases z : b = x
      · exact .inr (z ▸ nx)
      · rw [upd_ne z] at h; exact g1.nw b o h, g1.al⟩
    have dn : Done c (upd F' x (.ins C dx' gs)) H' t' := f.dn.grow g2 (fun b o h => by
      by_cases z : b = x
      · rw [z, upd_same] at h; cases h; rw [z]; exact hx2
      · rw [upd_ne z] at h; exact d2.fh b o h) (fun b hb => by
      have ne : b ≠ x := fun z => fhx (z ▸ hb)
      rw [upd_ne ne]; exact h1 b hb) d2.mo
    have ss : SelfSame c H H' := fun a ha hm => by
      cases z : H a with
      | none => exact absurd (f.dn.gr.al a z) (f.dn.hd a ha).2
      | some o =>
        have na : a ∉ x :: hsm c.m := fun y => by
          rcases List.mem_cons.mp y with y | y
          · exact fhx (y ▸ ha)
          · obtain ⟨l, cs, e⟩ := mem_hsm y
            exact hm _ _ _ e rfl
        exact (of_hid (d2.gr.sH a o (hid_of na (s1 a o z)))).2
    exact k _ _ H' t' _ true (f.grow g2 dn ss) (g0.trans g2) (.ins upd_same (RpF.up sF r2)) p
  · obtain ⟨F1, t1, a, gs, e, d2, e1, e2, e3, e4, e5⟩ := e
    obtain ⟨g1, h1⟩ := out d2
    exact ⟨F1, t1, a, gs, e, f.dn.grow g1 d2.fh h1 d2.mo, e1, e2, e3, e4, e5⟩
section
variable {CX : CXT} {k : Nat} {C fI : Addr} {fd : FuncData} {ps : List Str} {CI : Con} {pe : Nat → Exn → Prop} {x : Str} {p pos : Pos} {e : Expr} {es : List Expr} {ua : UA} {dvs : List V} {dus : List Value} {dd : List D}
/-- C(e, ..) -/
theorem v_make (hK : X.K = c.K) (M : Mk X.K C fI) (G : FnOk X.prog X.w X.K X.mg X.base CX k fI fd ps (spI X.K C CI)) (hr : Room (k + 1) X.A) (hg : Gl X x) (hm : X.mg x = some (.ref C)) (hb : Binds X.K fd ps dus) (hv : Vals dvs dus) (hd : ∀ F, Rps X.K F dvs dd) (hx : Passes CX X (EXk c pe)) (ha : PA X (e :: es) (tAr c ua))
    (hdb : (x == ("__debug__" : Str)) = false := by decide) (he : starEach (e :: es) X.env = (false, eval e X.env) :: starEach es X.env := by rfl) (hpl : (backTo pos (starEach es X.env)).any (·.1) = false := by rfl) : PE X (.Call (.Name x p) (e :: es) [] pos) (tV c (uMake c.m CI dd pe ua)) :=
  pe_wk (pe_make M G hr hg hm hb hv hx ha hdb he hpl) fun _ _ _ h => by rw [hK]; exact makeW (hK ▸ hd) h
end
end
end VL

set_option linter.all false
set_option maxRecDepth 100000
set_option maxHeartbeats 4000000
namespace VL
open PySem PySem.Spec PyProof.Rows L2 Nv
/-! # draws: the list of the cells' list and two numbers, read and written -/
section
variable {c : Ct} {F F' H H' : Hp} {δ : List Sl} {σ : L2.St} {t t' : Nat} {g : Bool} {X : Cx} {E : VEn} {Dn : Ends}
/-- the draws' list is written -/
theorem Fits.mset (f : Fits c F δ σ H t) {L l : Addr} {cs : List Int} (em : c.m = some (L, l, cs)) {u r : Int} (h0 : 0 ≤ u) (h1 : u ≤ t') : Fits c F δ σ (upd H L (.lst [.ref l, .int u, .int r])) t' := by
  have mL := (f.dn.mh _ _ _ em).1
  obtain ⟨u0, r0, la1, la2, la3, la4, _⟩ := (f.dn.mo _ _ _ em).ex
  have d : Done c F (upd H L (.lst [.ref l, .int u, .int r])) t' := by
    refine ⟨⟨f.dn.gr.sF, fun b o h => ?_, f.dn.gr.nw, fun b h => ?_⟩, fun b o h => ?_, f.dn.hd, fun L' l' cs' z => ?_, f.dn.mh⟩
    · obtain ⟨b1, b2⟩ := of_hid h
      have ne : b ≠ L := fun z => b1 (z ▸ mL)
      refine hid_of b1 ?_
      rw [upd_ne ne]
      exact (of_hid (f.dn.gr.sH b o h)).2
    · by_cases z : b = L
      · rw [z, upd_same] at h; cases h
      · rw [upd_ne z] at h; exact f.dn.gr.al b h
    · rw [upd_ne (fun z => by rw [z, (f.dn.hd _ mL).1] at h; cases h)]
      exact f.dn.fh b o h
    · rw [em] at z
      cases z
      exact ⟨u, r, upd_same, by rw [upd_ne la3]; exact la2, la3, la4, h0, h1⟩
  obtain ⟨A, h1, h2⟩ := f.sl
  refine ⟨d, f.len, A, fun j u x e1 e2 => ?_, h2⟩
  have q := h1 j u x e1 e2
  cases u with
  | un => trivial
  | fr d => exact q
  | ow es2 =>
    obtain ⟨r1, r2, r3, vs2, r4, r5⟩ := q
    exact ⟨r1, r2, r3, vs2, by rw [upd_ne (fun y => (f.dn.hd _ mL).2 (by rw [← y]; exact r3))]; exact r4, r5⟩
  | oi C2 fs2 =>
    obtain ⟨r1, r2, r3, dx2, gs2, r4, r5⟩ := q
    exact ⟨r1, r2, r3, dx2, gs2, by rw [upd_ne (r3 _ _ _ em)]; exact r4, r5⟩
theorem Fits.frE (f : Fits c F δ σ H t) {i : Nat} {d : D} (e : δ[i]? = some (.fr d)) : ∃ v, σ[i]? = some (some v) ∧ Rp c.K F v d := by
  have l := (List.getElem?_eq_some_iff.mp e).1
  rw [f.len] at l
  have ex := List.getElem?_eq_getElem l
  obtain ⟨A, h1, _⟩ := f.sl
  obtain ⟨v, e1, r⟩ := h1 i _ _ e ex
  exact ⟨v, by rw [ex, e1], r⟩
def uM0 (m : Option (Addr × Addr × List Int)) (i : Nat) : UE := fun t δ P => match m, δ[i]? with
  | some (L, _, cs), some (.fr (.adr a)) => a = L ∧ (cs.length ≤ 60 → P t (.lst (cs.map D.int)) false)
  | _, _ => False
def uM1 (m : Option (Addr × Addr × List Int)) (i : Nat) : UE := fun t δ P => match m, δ[i]? with
  | some (L, _, _), some (.fr (.adr a)) => a = L ∧ ∀ u : Int, 0 ≤ u → u ≤ t → P t (.int u) true
  | _, _ => False
def uM2 (m : Option (Addr × Addr × List Int)) (i : Nat) : UE := fun t δ P => match m, δ[i]? with
  | some (L, _, _), some (.fr (.adr a)) => a = L ∧ ∀ r : Int, P t (.int r) true
  | _, _ => False
theorem rps_ints {K : PySem.W.Frag} {G : Hp} : ∀ cs : List Int, Rps K G (cs.map V.int) (cs.map D.int)
  | [] => .nil
  | c :: r => .cons (.int c) (rps_ints r)
section
variable {a b : Expr} {pos : Pos} {i : Nat}
theorem mxE {m : Option (Addr × Addr × List Int)} {o : Option Sl} {p : Addr → Addr → List Int → Prop} (h : match m, o with
  | some (L, l, cs), some (.fr (.adr a)) => a = L ∧ p L l cs
  | _, _ => False) : ∃ L l cs, m = some (L, l, cs) ∧ o = some (.fr (.adr L)) ∧ p L l cs := by
  split at h
  · obtain ⟨rfl, h⟩ := h
    exact ⟨_, _, _, rfl, rfl, h⟩
  · exact h.elim
theorem v_m0 (hh : c.hs = hsm c.m) (hK : X.K = c.K) (ha : PE X a (tVar i)) (hb : PE X b (tC (.int 0))) (hs : PlainIx b) : PE X (.Subscript a b pos) (tV c (uM0 c.m i)) :=
  pe_wk (pe_ix (r := rIx c.K) (by rw [← hK]; exact ix_seq) ha hb hs) fun σ H Q ⟨F, δ, t, P, f, u, k⟩ => by
    obtain ⟨L, l, cs, em, e, u0⟩ := mxE (p := fun L l cs => cs.length ≤ 60 → P t (.lst (cs.map D.int)) false) u
    obtain ⟨v, e1, r⟩ := f.frE e
    rw [Rp.adrE r] at e1
    obtain ⟨un, rr, la1, la2, la3, la4, la5, la6⟩ := (f.dn.mo _ _ _ em).ex
    refine ⟨_, e1, .inl ⟨L, _, 0, _, rfl, rfl, SqL.of la1, atI_nat (j := 0) rfl, k _ F H t _ false f (Gro.refl _ _ _) ?_ (u0 la4)⟩⟩
    refine .lst (hid_of (fun z => ?_) la2) (rps_ints cs)
    rw [hh, em] at z
    exact la3 (List.mem_singleton.mp z)
theorem v_m1 (hK : X.K = c.K) (ha : PE X a (tVar i)) (hb : PE X b (tC (.int 1))) (hs : PlainIx b) : PE X (.Subscript a b pos) (tV c (uM1 c.m i)) :=
  pe_wk (pe_ix (r := rIx c.K) (by rw [← hK]; exact ix_seq) ha hb hs) fun σ H Q ⟨F, δ, t, P, f, u, k⟩ => by
    obtain ⟨L, l, cs, em, e, u1⟩ := mxE (p := fun L l cs => ∀ u : Int, 0 ≤ u → u ≤ t → P t (.int u) true) u
    obtain ⟨v, e1, r⟩ := f.frE e
    rw [Rp.adrE r] at e1
    obtain ⟨un, rr, la1, la2, la3, la4, la5, la6⟩ := (f.dn.mo _ _ _ em).ex
    exact ⟨_, e1, .inl ⟨L, _, 1, _, rfl, rfl, SqL.of la1, atI_nat (j := 1) rfl, k _ F H t _ true f (Gro.refl _ _ _) (.int _) (u1 un la5 la6)⟩⟩
theorem v_m2 (hK : X.K = c.K) (ha : PE X a (tVar i)) (hb : PE X b (tC (.int 2))) (hs : PlainIx b) : PE X (.Subscript a b pos) (tV c (uM2 c.m i)) :=
  pe_wk (pe_ix (r := rIx c.K) (by rw [← hK]; exact ix_seq) ha hb hs) fun σ H Q ⟨F, δ, t, P, f, u, k⟩ => by
    obtain ⟨L, l, cs, em, e, u2⟩ := mxE (p := fun L l cs => ∀ r : Int, P t (.int r) true) u
    obtain ⟨v, e1, r⟩ := f.frE e
    rw [Rp.adrE r] at e1
    obtain ⟨un, rr, la1, la2, la3, la4, la5, la6⟩ := (f.dn.mo _ _ _ em).ex
    exact ⟨_, e1, .inl ⟨L, _, 2, _, rfl, rfl, SqL.of la1, atI_nat (j := 2) rfl, k _ F H t _ true f (Gro.refl _ _ _) (.int _) (u2 rr)⟩⟩
end
def uMp1 (m : Option (Addr × Addr × List Int)) (i : Nat) (ue : UE) : US := fun E t δ => ue t δ fun t1 d _ => match d with
  | .int v => match m, δ[i]? with
    | some (L, _, _), some (.fr (.adr a)) => a = L ∧ 0 ≤ v ∧ v ≤ t1 + 1 ∧ E.nx (t1 + 1) δ
    | _, _ => False
  | _ => False
def uMp2 (m : Option (Addr × Addr × List Int)) (i : Nat) (ue : UE) : US := fun E t δ => ue t δ fun t1 d _ => match d with
  | .int _ => match m, δ[i]? with
    | some (L, _, _), some (.fr (.adr a)) => a = L ∧ E.nx t1 δ
    | _, _ => False
  | _ => False
section
variable {e a b : Expr} {pos p2 : Pos} {i : Nat} {ue : UE}
theorem vs_mp1 (hg : PG X (.Subscript a b p2) (gSub (tVar i) (tC (.int 1)) rSetL)) (he : PE X e (tV c ue)) (hs : swapsWithSole [.Subscript a b p2] e pos.line X.env = pure false := by rfl) (hw : swappedStores [.Subscript a b p2] e X.env = pure none := by rfl)
    (h1 : (assignEach [.Subscript a b p2] X.env).map (·.2) = [assign (.Subscript a b p2) X.env] := by rfl) : PS X (.Assign [.Subscript a b p2] e pos) (sV c (uMp1 c.m i ue)) := ps_wkV (ps_asg he hg hs hw h1) fun D σ H ⟨F, δ, t, E, f, u, l⟩ =>
  ⟨F, δ, t, _, f, u, fun v F1 H1 t1 d g f1 g1 r w => by
    split at w
    · rename_i n
      obtain ⟨L, la, cs, em, e, h0, h2, p⟩ := mxE (p := fun L l cs => 0 ≤ n ∧ n ≤ t1 + 1 ∧ E.nx (t1 + 1) δ) w
      obtain ⟨v', e1, r'⟩ := f1.frE e
      rw [Rp.adrE r'] at e1
      obtain ⟨un, rr, la1, la2, la3, la4, la5, la6⟩ := (f1.dn.mo _ _ _ em).ex
      rw [r.intE]
      exact ⟨_, e1, L, _, 1, 1, rfl, rfl, la1, rfl, l.nx F1 _ _ _ _ (f1.mset (t' := t1 + 1) em h0 (by omega)) g1.sF p⟩
    · exact w.elim⟩
theorem vs_mp2 (hg : PG X (.Subscript a b p2) (gSub (tVar i) (tC (.int 2)) rSetL)) (he : PE X e (tV c ue)) (hs : swapsWithSole [.Subscript a b p2] e pos.line X.env = pure false := by rfl) (hw : swappedStores [.Subscript a b p2] e X.env = pure none := by rfl)
    (h1 : (assignEach [.Subscript a b p2] X.env).map (·.2) = [assign (.Subscript a b p2) X.env] := by rfl) : PS X (.Assign [.Subscript a b p2] e pos) (sV c (uMp2 c.m i ue)) := ps_wkV (ps_asg he hg hs hw h1) fun D σ H ⟨F, δ, t, E, f, u, l⟩ =>
  ⟨F, δ, t, _, f, u, fun v F1 H1 t1 d g f1 g1 r w => by
    split at w
    · rename_i n
      obtain ⟨L, la, cs, em, e, p⟩ := mxE (p := fun L l cs => E.nx t1 δ) w
      obtain ⟨v', e1, r'⟩ := f1.frE e
      rw [Rp.adrE r'] at e1
      obtain ⟨un, rr, la1, la2, la3, la4, la5, la6⟩ := (f1.dn.mo _ _ _ em).ex
      rw [r.intE]
      exact ⟨_, e1, L, _, 2, 2, rfl, rfl, la1, rfl, l.nx F1 _ _ _ _ (f1.mset (t' := t1) em la5 la6) g1.sF p⟩
    · exact w.elim⟩
end
theorem w_pow : W2 c (rI CPow fun i j => .int (i ^ j.toNat)) (wI CPow fun i j => .int (i ^ j.toNat)) := w_I fun _ _ _ => .int _
theorem w_fdivW : W2 c (rI CDivW fun i j => .int (i / j)) (wI CDivW fun i j => .int (i / j)) := w_I fun _ _ _ => .int _
end
section
variable {P : Program} {w : World} {K : PySem.W.Frag} {mg : Str → Option Value} {base : Heap} {x qual : Str} {st : Stmt} {fa : Addr} {fd : FuncData} {N ps : List Str} {k : Nat} {C : Con}
theorem Done.more {c : Ct} {F H : Hp} {t u : Nat} (d : Done c F H t) (h : t ≤ u) : Done c F H u := ⟨d.gr, d.fh, d.hd, fun L l cs z => (d.mo L l cs z).more h, d.mh⟩
def retM (Pq : Nat → D → Prop) : VEn := { nx := fun t _ => ∃ u, t ≤ u ∧ Pq u .non, rt := fun t d => ∃ u, t ≤ u ∧ Pq u d }
/-- a def's contract by its body; what draws know -/
theorem con_okD (F : Fun K x qual st fa fd) (S : FnScope N ps (defScope st)) (len : ∀ m t ds Pq pe, C m t ds Pq pe → ds.length = ps.length)
    (body : ∀ (c : Ct) (pe : Nat → Exn → Prop) (cdv : Value) (A : Around) (outer : List Env) (s : Shared) (H : Hp) (E : XK), c.hs = hsm c.m → K = c.K → Takes (cxOf (L2.CX P w) P w K mg base N qual (defScope st) fa cdv A outer s H E) (fun cls d _ H' => EXk c pe cls d H') → Passes (L2.CX P w) (cxOf (L2.CX P w) P w K mg base N qual (defScope st) fa cdv A outer s H E) (EXk c pe) → Room k (A.deeper (envOfC qual (defScope st) s.heap.objs.size fa cdv)) →
      ∃ u, PSs (cxOf (L2.CX P w) P w K mg base N qual (defScope st) fa cdv A outer s H E) (defBody st) (sV c u) ∧ ∀ t ds Pq, C c.m t ds Pq pe → u (retM Pq) t (frs0 ds (N.length - ds.length))) : FnOk P w K mg base (L2.CX P w) (k + 1) fa fd ps (spV K C) := by
  refine F.okX S (fun vs H Q E h => ?_) (fun cdv A outer s H vs Q E hr h => ?_)
  · obtain ⟨c, t, ds, Pq, pe, _, _, _, _, r, hC, _⟩ := h
    rw [r.length]
    exact len _ _ _ _ _ hC
  · obtain ⟨c, t, ds, Pq, pe, cK, cH, chs, d, r, hC, q1, q2⟩ := h
    have tk : Takes (cxOf (L2.CX P w) P w K mg base N qual (defScope st) fa cdv A outer s H E) (fun cls d _ H' => EXk c pe cls d H') := (takes_of rfl rfl rfl rfl).imp fun cls dd σ H' z => q2 cls dd H' z
    obtain ⟨u, hu, hw⟩ := body c pe cdv A outer s H E chs cK.symm tk (passes_call tk fun _ _ _ _ h => h) hr
    refine ⟨_, hu, c.F0, _, t, _, start_fits d (cK ▸ r), hw t ds Pq hC, ?_, ?_, ?_, ?_⟩
    · rintro F' δ' σ' H' t' f' _ ⟨u, hu, p⟩
      exact q1 .non F' H' u .non (f'.dn.more hu) .non p
    · intro F' δ' σ' H' t' f' _ p
      exact p.elim
    · intro F' δ' σ' H' t' f' _ p
      exact p.elim
    · rintro v F' H' t' dd d' _ r' ⟨u, hu, p⟩
      exact q1 v F' H' u dd (d'.more hu) (cK ▸ r') p
end
/-! ## what a draw gives -/
/-- a number from 0 up, below that -/
def C_dr : Con := fun m t ds Pq _ => ∃ L l cs n, m = some (L, l, cs) ∧ ds = [.adr L, .int n] ∧ 0 < n ∧ n ≤ 4000000000000 ∧ t ≤ 900000 ∧ ∀ v : Int, 0 ≤ v → v < n → Pq (t + 1) (.int v)
/-- one of a list -/
def C_pk : Con := fun m t ds Pq _ => ∃ L l cs es, m = some (L, l, cs) ∧ ds = [.adr L, .lst es] ∧ 0 < es.length ∧ es.length ≤ 100000 ∧ t ≤ 900000 ∧ ∀ d ∈ es, Pq (t + 1) d
theorem eqv_lnil (ds : List D) : D.eqv (.lst ds) (.lst []) = ds.isEmpty := by
  cases ds <;> simp [D.eqv, D.data, D.datas, PyData.eqv, PyData.eqvAll]
theorem shp_ints (n : Nat) (cs : List Int) : D.shp (n + 1) (.lst (cs.map D.int)) = true := by
  simp only [D.shp, shps_all, List.all_map]
  exact List.all_eq_true.mpr fun p _ => shp_int
theorem shp_lnil (n : Nat) : D.shp (n + 1) (.lst []) = true := by simp [D.shp, D.shps]
theorem mod_at {cs : List Int} (h : cs ≠ []) (u : Int) : ∃ v, atI (cs.map D.int) (u % (cs.length : Int)) = some (.int v) := by
  have hl : 0 < cs.length := List.length_pos_iff.mpr h
  have h1 := Int.emod_nonneg u (show ((cs.length : Nat) : Int) ≠ 0 by omega)
  have h2 := Int.emod_lt_of_pos u (show (0 : Int) < ((cs.length : Nat) : Int) by omega)
  obtain ⟨j, ej⟩ : ∃ j : Nat, u % ((cs.length : Nat) : Int) = (j : Int) := ⟨(u % ((cs.length : Nat) : Int)).toNat, by omega⟩
  have hj : j < cs.length := by omega
  refine ⟨cs[j], ?_⟩
  rw [ej]
  exact atI_nat (by rw [List.getElem?_map, List.getElem?_eq_getElem hj]; rfl)
end VL

set_option linter.all false
set_option maxRecDepth 100000
set_option maxHeartbeats 4000000
namespace VL
open PySem PySem.Spec PyProof.Rows L2 Nv
section
variable {c : Ct} {F F' H H' : Hp} {δ : List Sl} {σ : L2.St} {t t' : Nat} {g : Bool} {X : Cx}
/-! # slices, repetitions of lists, tuples of numbers compared -/
abbrev UO := Nat → List Sl → (Nat → Option Int → Prop) → Prop
def oV (c : Ct) (u : UO) : TO := fun σ H Q => ∃ F δ t P, Fits c F δ σ H t ∧ u t δ P ∧ ∀ o F' H' t', Fits c F' δ σ H' t' → Gro c.hs F H F' H' → P t' o → Q o H'
def uoN : UO := fun t _ P => P t none
def uoS (u : UE) : UO := fun t δ P => u t δ fun t1 d _ => match d with
  | .int i => P t1 (some i)
  | _ => False
theorem po_wk {e : Option Expr} {tt : TO} {u : UO} (h : PO X e tt) (w : ∀ σ H Q, oV c u σ H Q → tt σ H Q) : PO X e (oV c u) := ⟨fun pins s σ H Q I q => h.run pins s σ H Q I (w σ H Q q)⟩
theorem vo_none : PO X none (oV c uoN) := po_wk po_none fun σ H Q ⟨F, δ, t, P, f, u, k⟩ => k none F H t f (Gro.refl _ _ _) u
theorem vo_some {e : Expr} {u : UE} (h : PE X e (tV c u)) : PO X (some e) (oV c (uoS u)) := po_wk (po_some h) fun σ H Q ⟨F, δ, t, P, f, u, k⟩ => ⟨F, δ, t, _, f, u, fun v F1 H1 t1 d g f1 g1 r w => by
  split at w
  · rename_i i
    exact ⟨i, r.intE, k _ F1 H1 t1 f1 g1 w⟩
  · exact w.elim⟩
/-- xs[lo:hi] -/
def cutD (xs : List D) (lo hi : Option Int) : List D := (xs.drop (HT.sIx xs.length 0 lo)).take (HT.sIx xs.length xs.length hi - HT.sIx xs.length 0 lo)
theorem cut_rep {K : PySem.W.Frag} {G : Hp} {vs : List V} {ds : List D} (r : Rps K G vs ds) (lo hi : Option Int) : Rps K G (cutV vs lo hi) (cutD ds lo hi) := by
  unfold cutV cutD
  rw [r.length]
  exact (r.drop _).take _
theorem cutD_front {xs : List D} {k : Nat} : cutD xs none (some (k : Int)) = xs.take k := by
  unfold cutD
  rw [HT.sIx_none, HT.sIx_nat, List.drop_zero, Nat.sub_zero]
  rcases Nat.le_total k xs.length with h | h
  · rw [Nat.min_eq_left h]
  · rw [Nat.min_eq_right h, List.take_length, List.take_of_length_le h]
def uSl (u : UE) (ul uh : UO) : UE := fun t δ P => u t δ fun t1 d g => match d with
  | .lst ds => g = true ∧ ul t1 δ fun t2 lo => uh t2 δ fun t3 hi => P t3 (.lst (cutD ds lo hi)) true
  | _ => False
theorem vn_slice {e : Expr} {lo hi : Option Expr} {p2 pos : Pos} {u : UE} {ul uh : UO} (hK : X.K = c.K) (he : PE X e (tV c u)) (hl : PO X lo (oV c ul)) (hh : PO X hi (oV c uh)) : PE X (.Subscript e (.Slice lo hi none p2) pos) (tN c (uSl u ul uh)) :=
  pn_wk (pe_slice (r := rSlLN c.K) (by rw [← hK]; exact sl_listN) he hl hh) fun σ H Q ⟨F, δ, t, P, f, u, k⟩ => ⟨F, δ, t, _, f, u, fun v F1 H1 t1 d g f1 g1 r w => by
    split at w
    · rename_i ds
      obtain ⟨rfl, w⟩ := w
      have r : Rp c.K F1 v (.lst ds) := r
      refine ⟨F1, δ, t1, _, f1, w, fun lo F2 H2 t2 f2 g2 w2 => ⟨F2, δ, t2, _, f2, w2, fun hi F3 H3 t3 f3 g3 p => ?_⟩⟩
      cases r with
      | @lst a xs _ h s =>
        have s23 := g2.sF.trans g3.sF
        refine ⟨a, xs, rfl, SqL.of (f3.dn.fh _ _ (s23 _ _ h)), fun q H4 np e sm => kN k q _ _ F3 H3 H4 t3 true f3 (g1.trans (g2.trans g3)) np e sm (cut_rep (Rps.up s23 s) lo hi) p⟩
    · exact w.elim⟩
/-- xs * k -/
def wRep : Nat → D → Bool → D → Bool → (Nat → D → Bool → Prop) → Prop := fun t d g e _ P => match d, e with
  | .lst ds, .int k => g = true ∧ -(2 ^ 63) ≤ k ∧ k < 2 ^ 63 ∧ ds.length * k.toNat ≤ sizeLine ∧ P t (.lst (List.replicate k.toNat ds).flatten) true
  | _, _ => False
theorem vn_rep {a b : Expr} {pos : Pos} {ua ub : UE} (ha : PE X a (tV c ua)) (hb : PE X b (tV c ub)) : PE X (.BinOp a .Mult b pos) (tN c (u2 wRep ua ub)) :=
  pn_wk (pe_op op_rep ha hb) fun σ H Q ⟨F, δ, t, P, f, u, k⟩ => ⟨F, δ, t, _, f, u, fun x F1 H1 t1 d g f1 g1 r1 u1 => ⟨F1, δ, t1, _, f1, u1, fun y F2 H2 t2 e h f2 g2 r2 w => by
    unfold wRep at w
    split at w
    · rename_i ds kk
      obtain ⟨hg, k1, k2, sz, p⟩ := w
      subst hg
      have r1 : Rp c.K F1 x (.lst ds) := r1
      rw [r2.intE]
      cases r1 with
      | lst h1 s1 =>
        refine ⟨_, kk, _, rfl, rfl, f2.dn.fh _ _ (g2.sF _ _ h1), k1, k2, by rw [s1.length]; exact sz, fun q np => kN k q _ _ F2 H2 _ t2 true f2 (g1.trans g2) np upd_same (Same.neu np) ((Rps.up g2.sF s1).rep _) p⟩
    · exact w.elim⟩⟩
theorem o_ltT (hK : X.K = c.K) (hu : X.A.units + 64 < cLine) : OpR X (compareOp .Lt) (rLtT c.K) := hK ▸ op_ltT (by omega)
/-- pairs of numbers -/
def wLtP : Nat → D → Bool → D → Bool → (Nat → D → Bool → Prop) → Prop := fun t d _ e _ P => ∃ a b x y, d = .tup [.int a, .int b] ∧ e = .tup [.int x, .int y] ∧ P t (.bl (decide (a < x) || (decide (a = x) && decide (b < y)))) true
theorem w_ltP : W2 c (rLtT c.K) wLtP := fun x y F H d e gx gy δ σ t Q P ft rx ry w k => by
  obtain ⟨a, b, x2, y2, rfl, rfl, p⟩ := w
  have two : ∀ {v : V} {i j : Int}, Rp c.K H v (.tup [.int i, .int j]) → ∃ p, v = .ref p ∧ SqT c.K H p ([i, j].map V.int) := fun {v i j} r => by
    cases r with
    | tup h r =>
      cases r with
      | cons h1 r => cases r with
        | cons h2 r => cases r; cases h1; cases h2; exact ⟨_, rfl, h.sq⟩
  obtain ⟨p1, rfl, h1⟩ := two (rx.all ft)
  obtain ⟨p2, rfl, h2⟩ := two (ry.all ft)
  refine ⟨p1, p2, [a, b], [x2, y2], rfl, rfl, h1, h2, ?_⟩
  have e : HT.lexLt [a, b] [x2, y2] = (decide (a < x2) || (decide (a = x2) && decide (b < y2))) := by
    simp only [HT.lexLt_cons, HT.lexLt_nil_nil]
    by_cases z : a = x2
    · subst z
      by_cases z2 : b = y2
      · subst z2; simp
      · simp [z2]
    · simp [z]
  rw [e]
  exact k _ F H t _ true ft (Gro.refl _ _ _) (.bl _) p
end
end VL

set_option linter.all false
set_option maxRecDepth 100000
set_option maxHeartbeats 4000000
namespace VL
open PySem PySem.Spec PyProof.Rows L2 Nv
/-! # repr of lists and tuples of small numbers -/
theorem short_i : ∀ n : Nat, n < 200 → (PyData.shown (.int (n : Int))).length ≤ 13 ∧ (PyData.shown (.int (-(n : Int)))).length ≤ 13 ∧ n.log2 < 8 := by decide +kernel
mutual
def D.sm : D → Bool
  | .int i => decide (-199 ≤ i) && decide (i ≤ 199)
  | .lst ds => D.sms ds
  | .tup ds => D.sms ds
  | _ => false
def D.sms : List D → Bool
  | [] => true
  | d :: ds => d.sm && D.sms ds
end
mutual
def D.sz : D → Nat
  | .lst ds => D.szs ds + 1
  | .tup ds => D.szs ds + 1
  | _ => 1
def D.szs : List D → Nat
  | [] => 0
  | d :: ds => d.sz + D.szs ds
end
theorem sms_all : ∀ ds : List D, D.sms ds = ds.all D.sm
  | [] => by simp [D.sms]
  | d :: ds => by simp [D.sms, sms_all ds]
mutual
theorem sm_ok : ∀ d : D, d.sm = true → d.data.canLay0 = true ∧ d.data.showable = true ∧ d.data.intsShort 13 = true ∧ d.data.weight + 1 ≤ 16 * d.sz ∧ d.data.hasDict = false
  | .int i, h => by
    simp only [D.sm, Bool.and_eq_true, decide_eq_true_eq] at h
    obtain ⟨h1, h2, h3⟩ := short_i i.natAbs (by omega)
    have e : i = (i.natAbs : Int) ∨ i = -(i.natAbs : Int) := by omega
    have sh : (PyData.shown (.int i)).length ≤ 13 := by
      rcases e with e | e <;> rw [e]
      · exact h1
      · exact h2
    simp only [D.data, PyData.canLay0, PyData.showable, PyData.intsShort, PyData.weight, PyData.hasDict, D.sz, decide_eq_true_eq, true_and, and_true]
    refine ⟨by omega, sh, ?_⟩
    split <;> omega
  | .lst ds, h => by
    have h : D.sms ds = true := by simpa only [D.sm] using h
    obtain ⟨h1, h2, h3, h4, h5⟩ := sms_ok ds h
    simp only [D.data, PyData.canLay0, PyData.showable, PyData.intsShort, PyData.weight, PyData.hasDict, D.sz]
    exact ⟨h1, h2, h3, by omega, h5⟩
  | .tup ds, h => by
    have h : D.sms ds = true := by simpa only [D.sm] using h
    obtain ⟨h1, h2, h3, h4, h5⟩ := sms_ok ds h
    simp only [D.data, PyData.canLay0, PyData.showable, PyData.intsShort, PyData.weight, PyData.hasDict, D.sz]
    exact ⟨h1, h2, h3, by omega, h5⟩
  | .non, h => by simp [D.sm] at h
  | .bl _, h => by simp [D.sm] at h
  | .str _, h => by simp [D.sm] at h
  | .ins _ _, h => by simp [D.sm] at h
  | .adr _, h => by simp [D.sm] at h
  | .ty _, h => by simp [D.sm] at h
theorem sms_ok : ∀ ds : List D, D.sms ds = true → PyData.canLayAll0 (D.datas ds) = true ∧ PyData.showableAll (D.datas ds) = true ∧ PyData.intsShortAll 13 (D.datas ds) = true ∧ PyData.weightAll (D.datas ds) ≤ 16 * D.szs ds ∧ PyData.hasDictAll (D.datas ds) = false
  | [], _ => by simp [D.datas, PyData.canLayAll0, PyData.showableAll, PyData.intsShortAll, PyData.weightAll, PyData.hasDictAll, D.szs]
  | d :: ds, h => by
    have h : (d.sm && D.sms ds) = true := by simpa only [D.sms] using h
    obtain ⟨ha, hb⟩ := Bool.and_eq_true_iff.mp h
    obtain ⟨a1, a2, a3, a4, a5⟩ := sm_ok d ha
    obtain ⟨b1, b2, b3, b4, b5⟩ := sms_ok ds hb
    simp only [D.datas, PyData.canLayAll0, PyData.showableAll, PyData.intsShortAll, PyData.weightAll, PyData.hasDictAll, D.szs, a1, a2, a3, a5, b1, b2, b3, b5, Bool.and_self, Bool.or_self, true_and, and_true]
    omega
end
section
variable {c : Ct} {F F' H H' : Hp} {δ : List Sl} {σ : L2.St} {t t' : Nat} {g : Bool} {X : Cx}
def isSeqD : D → Bool
  | .lst _ => true
  | .tup _ => true
  | _ => false
def wRepr : WC := fun t ds _ P => match ds with
  | [d] => isSeqD d = true ∧ D.shp 60 d = true ∧ d.sm = true ∧ d.sz ≤ 60000 ∧ P t (.str d.data.shown) true
  | _ => False
theorem b_repr (hK : X.K = c.K) (hg : X.A.guards = some []) (hu : X.A.units + 70 < cLine) : CallR X (.builtin "repr") (rRepr c.K) := hK ▸ cr_repr hg hu
theorem c_repr : CW c (rRepr c.K) wRepr := fun vs F H ds g δ σ t Q P f r w k => by
  unfold wRepr at w
  split at w
  · rename_i d
    obtain ⟨w1, w2, w3, w4, p⟩ := w
    obtain ⟨x, rfl, r1⟩ := r.one
    have r1 := r1.all f
    obtain ⟨a, rfl⟩ : ∃ a, x = .ref a := by
      cases r1 with
      | lst _ _ => exact ⟨_, rfl⟩
      | tup _ _ => exact ⟨_, rfl⟩
      | _ => cases w1
    obtain ⟨s1, s2, s3, s4, s5⟩ := sm_ok d w3
    obtain ⟨z1, z2⟩ := shp_shaped w2
    have lay : d.data.layable0 = true := by
      unfold PyData.layable0
      simp only [Bool.and_eq_true, decide_eq_true_eq]
      exact ⟨⟨s1, by omega⟩, by omega⟩
    refine ⟨a, d.data, rfl, r1.dp w2, s2, s5, by omega, Nat.le_trans (shown_le13 lay s3) (by decide), k _ F H t _ true f (Gro.refl _ _ _) (.str _) p⟩
  · exact w.elim
end
end VL

set_option linter.all false
set_option maxRecDepth 100000
set_option maxHeartbeats 4000000
namespace VL
open PySem PySem.Spec PyProof.Rows L2 Nv
/-! # calls with keywords alone -/
section
variable {c : Ct} {F F' H H' : Hp} {δ : List Sl} {σ : L2.St} {t t' : Nat} {g : Bool} {X : Cx}
def uKwC (m : Option (Addr × Addr × List Int)) (C : Con) (pe : Nat → Exn → Prop) (l : Nat) (gD : List D → List D) (uk : UA) : UE := fun t δ P => uk t δ fun t1 es g => es.length = l ∧ C m t1 (gD es) (fun t2 d => P t2 d (g || isFlat d)) pe
theorem Rpgs.len {vs : List V} {ds : List D} (r : Rpgs c g F H vs ds) : vs.length = ds.length := by
  cases g with
  | true => exact Rps.length (show Rps c.K F vs ds from r)
  | false => exact Rps.length (show Rps c.K (hid c.hs H) vs ds from r)
theorem Rpgs.rel {vs ws : List V} {ds es : List D} (h : ∀ G, Rps c.K G vs ds → Rps c.K G ws es) (r : Rpgs c g F H vs ds) : Rpgs c g F H ws es := by
  cases g with
  | true => exact h _ (show Rps c.K F vs ds from r)
  | false => exact h _ (show Rps c.K (hid c.hs H) vs ds from r)
variable {CX : CXT} {k : Nat} {fa : Addr} {fd : FuncData} {ps ks : List Str} {C : Con} {pe : Nat → Exn → Prop} {x : Str} {p pos : Pos} {kws : List Keyword} {uk : UA} {gU : List Value → List Value → List Value} {gV : List V → List V → List V} {gD : List D → List D}
theorem v_kw0 (hK : X.K = c.K) (G : FnOk X.prog X.w X.K X.mg X.base CX k fa fd ps (spV X.K C)) (hr : Room k X.A) (hg : Gl X x) (hm : X.mg x = some (.ref fa)) (hk : PySem.W.keepIn X.K (.ref fa) = true) (hb : KBn X.K fd ps 0 ks gU gV) (hx : Passes CX X (EXk c pe)) (hkw : PK X kws (tAr c uk))
    (rel : ∀ G vs ds, Rps c.K G vs ds → Rps c.K G (gV [] vs) (gD ds)) (named : (backToKw pos (keywordEach kws X.env)).all (·.1.isSome) = true := by rfl) (names : (backToKw pos (keywordEach kws X.env)).filterMap (·.1) = ks := by rfl)
    (nodbg : (x == ("__debug__" : Str)) = false := by decide) (nostar : ((backTo pos (starEach [] X.env)).any (·.1) || (backToKw pos (keywordEach kws X.env)).any (·.1.isNone)) = false := by rfl) : PE X (.Call (.Name x p) [] kws pos) (tV c (uKwC c.m C pe ks.length gD uk)) :=
  pe_wk (Nv.pe_kw0 G hr hg hm hk hb hx hkw named names nodbg nostar) fun σ H Q ⟨F, δ, t, P, f, u, kk⟩ => by
    rw [hK]
    exact ⟨F, δ, t, _, f, u, fun vs F1 H1 t1 ds g f1 g1 r1 ⟨l, u1⟩ => ⟨rfl, by rw [r1.len]; exact l, call_sp f1 g1 (r1.rel fun G r => rel G _ _ r) u1 kk⟩⟩
/-- one keyword, one parameter -/
def kwO {α : Type} (_ zs : List α) : List α := zs
theorem kwO_rel (G : Hp) (vs : List V) (ds : List D) (r : Rps c.K G vs ds) : Rps c.K G (kwO [] vs) (id ds) := r
end
end VL

set_option linter.all false
set_option maxRecDepth 100000
set_option maxHeartbeats 4000000
namespace VL
open PySem PySem.Spec PyProof.Rows L2 Nv
/-! # texts put together -/
section
variable {c : Ct} {F F' H H' : Hp} {δ : List Sl} {σ : L2.St} {t t' : Nat} {g : Bool} {X : Cx}
def uFmt (u : UE) : UE := fun t δ P => u t δ fun t1 d _ => match d with
  | .str y => y.length ≤ sizeLine ∧ P t1 (.str y) true
  | .int i => i.natAbs.log2 < 1920 ∧ P t1 (.str (toString i)) true
  | _ => False
theorem v_fmt {e : Expr} {pos : Pos} {u : UE} (he : PE X e (tV c u)) : PE X (.FormattedValue e (-1) none pos) (tV c (uFmt u)) := pe_wk (pe_fmt he) fun σ H Q ⟨F, δ, t, P, f, u, k⟩ => ⟨F, δ, t, _, f, u, fun v F1 H1 t1 d g f1 g1 r w => by
  split at w
  · rename_i y
    exact .inl ⟨y, r.strE, w.1, k _ F1 H1 t1 _ true f1 g1 (.str _) w.2⟩
  · rename_i i
    exact .inr ⟨i, r.intE, w.1, k _ F1 H1 t1 _ true f1 g1 (.str _) w.2⟩
  · exact w.elim⟩
def uJs : List UE → Str → UE
  | [], acc, t, _, P => P t (.str acc) true
  | u :: us, acc, t, δ, P => u t δ fun t1 d _ => match d with
    | .str y => (acc ++ y).length ≤ sizeLine ∧ uJs us (acc ++ y) t1 δ P
    | _ => False
theorem jsW {Q : VK} {P : Nat → D → Bool → Prop} {F0 H0 : Hp} : ∀ (us : List UE) (acc : Str) {F H : Hp} {t : Nat}, Fits c F δ σ H t → Gro c.hs F0 H0 F H → uJs us acc t δ P →
    (∀ v F' H' t' d g, Fits c F' δ σ H' t' → Gro c.hs F0 H0 F' H' → Rpg c g F' H' v d → P t' d g → Q v H') → tJs (us.map (tV c)) acc σ H (fun out H1 => Q (.str out) H1)
  | [], acc, F, H, t, f, g0, u, k => k _ F H t _ true f g0 (.str _) u
  | u0 :: us, acc, F, H, t, f, g0, u, k => ⟨F, δ, t, _, f, u, fun v F1 H1 t1 d g f1 g1 r w => by
    split at w
    · rename_i y
      exact ⟨y, r.strE, w.1, jsW us (acc ++ y) f1 (g0.trans g1) w.2 k⟩
    · exact w.elim⟩
theorem v_joined {v1 v2 : Expr} {rest : List Expr} {us : List UE} {pos : Pos} (h : PJ X (v1 :: v2 :: rest) (us.map (tV c))) : PE X (.JoinedStr (v1 :: v2 :: rest) pos) (tV c (uJs us Str.empty)) :=
  pe_wk (pe_joined h) fun σ H Q ⟨F, δ, t, P, f, u, k⟩ => jsW us Str.empty f (Gro.refl _ _ _) u k
theorem vj_nil : PJ X [] (([] : List UE).map (tV c)) := .nil
theorem vj_cons {e : Expr} {es : List Expr} {u : UE} {us : List UE} (h : PE X e (tV c u)) (r : PJ X es (us.map (tV c))) : PJ X (e :: es) ((u :: us).map (tV c)) := .cons h r
/-- o.join(e) -/
def uJoin (uo u : UE) : UE := fun t δ P => uo t δ fun t1 d _ => match d with
  | .str a => u t1 δ fun t2 e _ => match rowD e with
    | some es => ∃ ys : List Str, es = ys.map D.str ∧ (ys.map (·.length)).sum + ys.length * a.length ≤ 16777216 ∧ P t2 (.str (Txt.join a ys)) true
    | none => False
  | _ => False
theorem rps_strs {K : PySem.W.Frag} {G : Hp} : ∀ {ys : List Str} {vs : List V}, Rps K G vs (ys.map D.str) → vs = ys.map V.str
  | [], _, r => by cases r; rfl
  | y :: ys, _, r => by
    cases r with
    | cons h r => cases h; rw [rps_strs r]; rfl
theorem v_join {o e : Expr} {apos pos : Pos} {uo u : UE} (hK : X.K = c.K) (ho : PE X o (tV c uo)) (he : PE X e (tV c u)) (hs : starEach [e] X.env = [(false, eval e X.env)] := by rfl) (hbase : attributeBase o "join" X.env (eval o X.env) = eval o X.env := by rfl) (hline : (apos.endLine == pos.line) = true := by rfl) :
    PE X (.Call (.Attribute o "join" apos) [e] [] pos) (tV c (uJoin uo u)) := pe_wk (pe_join ho he hs hbase hline) fun σ H Q ⟨F, δ, t, P, f, u, k⟩ => ⟨F, δ, t, _, f, u, fun v F1 H1 t1 d g f1 g1 r w => by
    split at w
    · rename_i a
      refine ⟨⟨a, r.strE⟩, F1, δ, t1, _, f1, w, fun y F2 H2 t2 e h f2 g2 r2 w => ?_⟩
      split at w
      · rename_i es e1
        obtain ⟨ys, rfl, sz, p⟩ := w
        obtain ⟨b, xs, rfl, hb, rx⟩ := (r2.all f2).row e1
        have := rps_strs rx
        subst this
        rw [hK]
        exact ⟨a, b, ys, r.strE, rfl, hb.imp SqL.of id, sz, k _ F2 H2 t2 _ true f2 (g1.trans g2) (.str _) p⟩
      · exact w.elim
    · exact w.elim⟩
end
end VL

set_option linter.all false
set_option maxRecDepth 100000
set_option maxHeartbeats 4000000
namespace VL
open PySem PySem.Spec PyProof.Rows L2 Nv
/-! # str(x), x of a class with a __str__ of its own -/
section
variable {prog : Program} {w : World} {A : Around} {E : Value → Shared → Prop} {s : Shared} {K : PySem.W.Frag} {x C f : Addr} {ox : Obj} {od : Option Obj}
theorem strOf_own {Q : Value → Shared → Prop} (hu : A.units < cLine) (X : K.In s.heap) (I : PySem.W.InstAt s.heap x ox C od) (st : PySem.W.findIn K (.ref C) "__str__" = some (some (.ref f))) (fn : PySem.W.isFn K (.ref f) = true)
    (q : wpAny (model prog w) A (call (.ref f) [.ref x]) (fun v s' => ∃ y t, v = .str y t ∧ Q v s') E s) : wpAny (model prog w) A (Builtin.Str.strOf (.ref x)) Q E s := by
  unfold Builtin.Str.strOf
  repeat (first
    | with_reducible refine wpAny_cRoomFor hu ?_
    | (refine wpAny_bind (m := callSpecial? (.ref x) (Str.ofString "__str__")) (PySem.W.special_fn X I st (by simpa [PySem.W.isFn] using fn) (wpAny_mono q (fun r s' hr => by
        obtain ⟨y, t, rfl, hq⟩ := hr
        repeat (first | exact hq | wp_step)) fun _ _ e => e)))
    | wp_step)
theorem str_newIn {v : Value} : MeetsIn prog w (Builtin.«str.__new__» ⟨[.type "str", v], []⟩) (fun A R s => wpAny (model prog w) A.in1 (Builtin.Str.strOf v) (fun r s' => R (.ok (.ret r)) s') (fun e s' => R (.error e) s') s) := fun A R s h => by
  rw [str_new_tree v]
  refine wpAny_bind (wpAny_pure ?_)
  refine wpAny_bind (wpAny_of_eq isSubtype_str_str ?_)
  exact wpAny_bind (wpAny_mono h (fun r s' h' => wpAny_pure (by exact h')) fun _ _ e => e)
theorem str_own {Q : Value → Shared → Prop} (hu : A.units + 2 < cLine) (X : K.In s.heap) (I : PySem.W.InstAt s.heap x ox C od) (st : PySem.W.findIn K (.ref C) "__str__" = some (some (.ref f))) (fn : PySem.W.isFn K (.ref f) = true)
    (q : wpAny (model prog w) A.in1.in1 (call (.ref f) [.ref x]) (fun v s' => ∃ y t, v = .str y t ∧ Q v s') E s) : wpAny (model prog w) A (call (.type "str") [.ref x]) Q E s := by
  refine callType_newIn F.called_str (by decide) (F.typeCall_str_1 _) (F.newCall_str_1 _) (fun obj => F.args_object_init_2 obj _) F.entry_str_new str_newIn ?_
  refine strOf_own (by show A.units + 1 + 1 < cLine; exact hu) X I st fn (wpAny_mono q (fun v s' z => ?_) fun _ _ e => e)
  obtain ⟨y, t, rfl, z⟩ := z
  exact ⟨y, t, rfl, typeIs_str _ _ _, z⟩
end
section
variable {X : Cx} {CX : CXT} {k : Nat} {C f : Addr} {fd : FuncData} {ps : List Str} {sp : Sp} {E : XK} {A : Around}
theorem own_call1 {pins : List (Addr × Obj)} {σ : L2.St} {H : Hp} {s : Shared} {Q : VK} {x : V} {u : Value} (F : FnOk X.prog X.w X.K X.mg X.base CX k f fd ps sp) (bnd : Binds X.K fd ps []) (out : Passes CX X E) (I : Inv X pins σ H s) (fr : A.frames = X.A.frames) (room : Room k A)
    (rx : RelV x u) (h : sp [x] H Q E) : wpAny (model X.prog X.w) A (call (.ref f) [u]) (EP X pins σ Q) X.xe s := by
  have e0 : Env0 X.prog X.w X.K X.mg X.base A X.stack s H := by
    have e := I.env0
    exact ⟨by rw [fr]; exact e.frames, e.mod, e.bs, e.bsz, e.funs, e.frf, e.hok, e.bare⟩
  have ln := F.len _ _ _ _ h
  have r2 : Vals [x] [u] := .cons rx .nil
  refine wpAny_call (codeAny_mono (F.run A X.stack s H ⟨[u], []⟩ [u] [x] _ E room e0 (by
    have z := bnd s [u] I.kIn (by simpa using ln)
    simpa using z) r2 h) fun r s' hq => ?_)
  cases r with
  | error e => exact out pins σ H s e s' I hq
  | ok fl =>
    cases fl with
    | ret z => exact I.after hq
    | next => exact False.elim hq
    | brk => exact False.elim hq
    | cont => exact False.elim hq
def rStrO (C : Addr) (sp : Sp) (E : XK) : List V → Hp → VK → Prop := fun xs H Q => ∃ (a dx : Addr) (fs : List (Str × V)), xs = [.ref a] ∧ H a = some (.ins C dx fs) ∧ sp [.ref a] H (fun v H' => ∃ y, v = .str y ∧ Q (.str y) H') E
/-- what the class must have -/
structure StrC (K : PySem.W.Frag) (C f : Addr) : Prop where
  st : PySem.W.findIn K (.ref C) "__str__" = some (some (.ref f))
  fn : PySem.W.isFn K (.ref f) = true
theorem call_strO (T : StrC X.K C f) (F : FnOk X.prog X.w X.K X.mg X.base CX k f fd ps sp) (bnd : Binds X.K fd ps []) (out : Passes CX X E) (room : Room (k + 2) X.A) : CallR X (.type "str") (rStrO C sp E) := by
  intro pins s σ H xs us Q I r ⟨a, dx, fs, e, h1, h⟩
  subst e
  cases r with
  | cons r1 r2 =>
    cases r2
    cases r1
    obtain ⟨mA, J, _⟩ := ins_get I.hok h1
    obtain ⟨od, J, _⟩ := J.look
    refine str_own (by have := room.units; omega) I.kIn J T.st T.fn ?_
    refine wpAny_mono (own_call1 (x := .ref a) F bnd out I (by rfl) room.in1.in1 rfl h) (fun z s' hz => ?_) fun _ _ e => e
    obtain ⟨v', H', I', rz, y, e, q⟩ := hz
    subst e
    obtain ⟨t, rfl⟩ := rz
    exact ⟨y, t, rfl, .str y, H', I', ⟨t, rfl⟩, q⟩
end
section
variable {c : Ct} {F F' H H' : Hp} {δ : List Sl} {σ : L2.St} {t t' : Nat} {g : Bool} {X : Cx}
def isInsD (C : Addr) : D → Bool
  | .ins C' _ => C' == C
  | _ => false
def wStrO (m : Option (Addr × Addr × List Int)) (C : Addr) (Cn : Con) (pe : Nat → Exn → Prop) : WC := fun t ds _ P => match ds with
  | [d] => isInsD C d = true ∧ Cn m t [d] (fun t2 r => ∃ y, r = .str y ∧ P t2 (.str y) true) pe
  | _ => False
theorem c_strO {C : Addr} {Cn : Con} {pe : Nat → Exn → Prop} : CW c (rStrO C (spV c.K Cn) (EXk c pe)) (wStrO c.m C Cn pe) := fun vs F H ds g δ σ t Q P f r w k => by
  unfold wStrO at w
  split at w
  · rename_i d
    obtain ⟨w1, u⟩ := w
    obtain ⟨x, rfl, r1⟩ := r.one
    cases d <;> try (cases w1; done)
    rename_i C' fs
    have e := eq_of_beq (show (C' == C) = true from w1)
    subst e
    cases (r1.all f) with
    | @ins a _ dx gs _ ha rf =>
      refine ⟨a, dx, gs, rfl, ha, ?_⟩
      refine call_sp (P := fun t2 d g => ∃ y, d = .str y ∧ P t2 (.str y) true) f (Gro.refl _ _ _) r u fun v F' H' t' d g' f' g1 r' ⟨y, e, p⟩ => ?_
      subst e
      exact ⟨y, r'.strE, k _ F' H' t' _ true f' g1 (.str _) p⟩
  · exact w.elim
theorem b_strO {CX : CXT} {k : Nat} {C fa : Addr} {fd : FuncData} {ps : List Str} {Cn : Con} {pe : Nat → Exn → Prop} (hK : X.K = c.K) (T : StrC X.K C fa) (G : FnOk X.prog X.w X.K X.mg X.base CX k fa fd ps (spV X.K Cn)) (bnd : Binds X.K fd ps []) (out : Passes CX X (EXk c pe)) (room : Room (k + 2) X.A) : CallR X (.type "str") (rStrO C (spV c.K Cn) (EXk c pe)) := by
  rw [← hK]
  exact call_strO T G bnd out room
end
end VL

set_option linter.all false
set_option maxRecDepth 100000
set_option maxHeartbeats 4000000
namespace VL
open PySem PySem.Spec PyProof.Rows L2 Nv LamX
/-! # a law's loop: statements over trees, then one that lays lambdas -/
section
variable {c : Ct} {F F' H H' : Hp} {δ : List Sl} {σ : L2.St} {t t' : Nat} {g : Bool} {X : Cx}
def TSq (c : Ct) : List US → TS → TS
  | [], T => T
  | u :: us, T => tSeq (sV c u) (TSq c us T)
def chain (fin : Nat → List Sl → Prop) (ret : Nat → D → Prop) : List US → Nat → List Sl → Prop
  | [], t, δ => fin t δ
  | u :: us, t, δ => u { nx := fun t' δ' => chain fin ret us t' δ', rt := ret } t δ
theorem chain_cons (fin : Nat → List Sl → Prop) (ret : Nat → D → Prop) (u : US) (us : List US) (t : Nat) (s : Sl) (δ : List Sl) : chain fin ret (u :: us) t (s :: δ) = u { nx := fun t' δ' => chain fin ret us t' δ', rt := ret } t (s :: δ) := rfl
theorem chain_nil (fin : Nat → List Sl → Prop) (ret : Nat → D → Prop) (t : Nat) (s : Sl) (δ : List Sl) : chain fin ret [] t (s :: δ) = fin t (s :: δ) := rfl
theorem seqOut {fin : Nat → List Sl → Prop} {ret : Nat → D → Prop} {T : TS} {Dn : Ends} {G : Hp} : ∀ (us : List US) {F H : Hp} {δ : List Sl} {σ : L2.St} {t : Nat}, Fits c F δ σ H t → Same G F → chain fin ret us t δ →
    (∀ F' δ' σ' H' t', Fits c F' δ' σ' H' t' → Same G F' → fin t' δ' → T Dn σ' H') → (∀ v F' H' t' d, Done c F' H' t' → Same G F' → Rp c.K F' v d → ret t' d → Dn.rt v H') → TSq c us T Dn σ H
  | [], F, H, δ, σ, t, f, s, u, k, r => k F δ σ H t f s u
  | u0 :: us, F, H, δ, σ, t, f, s, u, k, r => ⟨F, δ, t, _, f, u, ⟨fun F' δ' σ' H' t' f' s' p => seqOut us f' (s.trans s') p k r, fun _ _ _ _ _ _ _ p => p.elim, fun _ _ _ _ _ _ _ p => p.elim, fun v F' H' t' d d' s' r' p => r v F' H' t' d d' (s.trans s') r' p⟩⟩
def AnyC (K : PySem.W.Frag) (T : Ct → TS) : TS := fun D σ H => ∃ c : Ct, K = c.K ∧ T c D σ H
theorem pss_any {K : PySem.W.Frag} {sts : List Stmt} {T : Ct → TS} (h : ∀ c : Ct, K = c.K → PSs X sts (T c)) : PSs X sts (AnyC K T) := ⟨fun pins s σ H D I ⟨c, hc, q⟩ => (h c hc).run pins s σ H D I q⟩
theorem ps_any {K : PySem.W.Frag} {st : Stmt} {T : Ct → TS} (h : ∀ c : Ct, K = c.K → PS X st (T c)) : PS X st (AnyC K T) := ⟨fun pins s σ H D I ⟨c, hc, q⟩ => (h c hc).run pins s σ H D I q⟩
/-- at a turn's start -/
def turnC (K : PySem.W.Frag) (H : Hp) (L l : Addr) (cs : List Int) : Ct := ⟨K, fun _ => none, H, some (L, l, cs), [L]⟩
theorem turnC_m {K : PySem.W.Frag} {H : Hp} {L l : Addr} {cs : List Int} : (turnC K H L l cs).m = some (L, l, cs) := rfl
theorem turn_fits {K : PySem.W.Frag} {L l : Addr} {cs : List Int} (la : Lan H L l cs t) (len : δ.length = σ.length) (h : ∀ (i : Nat) (s : Sl) (x : Option V), δ[i]? = some s → σ[i]? = some x → s = Sl.un ∨ ∃ a, s = Sl.fr (D.adr a) ∧ x = some (V.ref a)) : Fits (turnC K H L l cs) (fun _ => none) δ σ H t := by
  have d : Done (turnC K H L l cs) (fun _ => none) H t := by
    refine ⟨Gro.refl _ _ _, fun _ _ e => (by cases e), fun b hb => ⟨rfl, ?_⟩, fun L' l' cs' e => ?_, fun L' l' cs' e => ?_⟩
    · rw [List.mem_singleton.mp hb]
      obtain ⟨o, e⟩ := la.ne
      show H L ≠ none
      rw [e]
      exact fun z => nomatch z
    · cases e
      exact la
    · cases e
      refine ⟨List.mem_singleton.mpr rfl, ?_⟩
      show H l ≠ none
      rw [la.cells]
      exact fun z => nomatch z
  refine ⟨d, len, fun _ => 0, fun i s x e1 e2 => ?_, fun i j s u e1 e2 o1 _ _ => ?_⟩
  · rcases h i s x e1 e2 with rfl | ⟨a, rfl, rfl⟩
    · trivial
    · exact ⟨_, rfl, .adr a⟩
  · have l1 := (List.getElem?_eq_some_iff.mp e1).1
    rw [len] at l1
    rcases h i s _ e1 (List.getElem?_eq_getElem l1) with rfl | ⟨a, rfl, _⟩ <;> cases o1
end
/-! ## trees where lambdas are laid -/
section
variable {K : PySem.W.Frag} {H H' : Hp}
theorem PlT.ext {a : Addr} {xs : List V} (e : ExtN H H') (h : PlT K H a xs) : PlT K H' a xs := h.imp (fun ⟨o, h, d⟩ => ⟨o, e _ _ h (fun ps z => nomatch z), d⟩) id
mutual
theorem Rp.ext (e : ExtN H H') : ∀ {v : V} {d : D}, Rp K H v d → Rp K H' v d
  | _, _, .non => .non
  | _, _, .bl b => .bl b
  | _, _, .int i => .int i
  | _, _, .str x => .str x
  | _, _, .lst h r => .lst (e _ _ h (fun ps z => nomatch z)) (Rps.ext e r)
  | _, _, .tup h r => .tup (h.ext e) (Rps.ext e r)
  | _, _, .ins h r => .ins (e _ _ h (fun ps z => nomatch z)) (RpF.ext e r)
  | _, _, .adr a => .adr a
  | _, _, .ty n => .ty n
theorem Rps.ext (e : ExtN H H') : ∀ {vs : List V} {ds : List D}, Rps K H vs ds → Rps K H' vs ds
  | _, _, .nil => .nil
  | _, _, .cons h t => .cons (Rp.ext e h) (Rps.ext e t)
theorem RpF.ext (e : ExtN H H') : ∀ {vs : List (Str × V)} {ds : List (Str × D)}, RpF K H vs ds → RpF K H' vs ds
  | _, _, .nil => .nil
  | _, _, .cons h t => .cons (Rp.ext e h) (RpF.ext e t)
end
theorem tabs_keep {T : List (Addr × Str)} {L : Addr} {xs : List V} (k : ∀ b o, b ≠ L → H b = some o → H' b = some o) (hL : H L = some (.lst xs)) (t : Tabs T H) : Tabs T H' := fun p hp => by
  obtain ⟨ps, h1, h2, h3⟩ := t p hp
  refine ⟨ps, k _ _ (fun z => by rw [z, hL] at h1; cases h1) h1, h2, fun pos cv hc => ?_⟩
  obtain ⟨c, e1, e2⟩ := h3 pos cv hc
  exact ⟨c, e1, k _ _ (fun z => by rw [z, hL] at e2; cases e2) e2⟩
theorem tabs_gro {T : List (Addr × Str)} {L : Addr} {xs : List V} {F F' : Hp} (g : Gro [L] F H F' H') (hL : H L = some (.lst xs)) (t : Tabs T H) : Tabs T H' := tabs_keep (fun b o nb e => (of_hid (g.sH b o (hid_of (fun z => nb (List.mem_singleton.mp z)) e))).2) hL t
end
/-! ## a, b = x, a new list that is changed -/
section
variable {c : Ct} {F F' H H' : Hp} {δ : List Sl} {σ : L2.St} {t t' : Nat} {g : Bool} {X : Cx} {E : VEn} {Dn : Ends}
def uParFO (i j : Nat) (ua ub : UE) : US := fun E t δ => ua t δ fun t1 d g => ub t1 δ fun t2 e _ => g = true ∧ match e with
  | .lst es => E.nx t2 ((δ.set i (.fr d)).set j (.ow es))
  | _ => False
theorem vs_parFO {i j : Nat} {x y : Str} {a b : Expr} {px py pt pos : Pos} {kt k2 pt2} {ua ub : UE} (hc : X.calm = true) (hN : X.N.Nodup) (hi : X.N[i]? = some x) (hj : X.N[j]? = some y) (hij : i ≠ j) (hx : X.env.scope.names.lookup x = some .local) (hy : X.env.scope.names.lookup y = some .local)
    (ha : PE X a (tV c ua)) (hb : PE X b (tN c ub)) (hw : swappedStores [.Tuple [.Name x px, .Name y py] kt pt] (.Tuple [a, b] k2 pt2) X.env = pure (some [x, y]))
    (hs : swapsWithSole [.Tuple [.Name x px, .Name y py] kt pt] (.Tuple [a, b] k2 pt2) pos.line X.env = pure false := by rfl) (hs1 : starEach [a, b] X.env = (false, eval a X.env) :: starEach [b] X.env := by rfl) (hs2 : starEach [b] X.env = (false, eval b X.env) :: starEach [] X.env := by rfl) :
    PS X (.Assign [.Tuple [.Name x px, .Name y py] kt pt] (.Tuple [a, b] k2 pt2) pos) (sV c (uParFO i j ua ub)) :=
  ps_wkV (ps_parN hc hN hi hj hij hx hy (pa_cons ha (pa_cons hb pa_nil hs2) hs1) hw hs) fun D σ H ⟨F, δ, t, E, f, u, l⟩ => ⟨F, δ, t, _, f, u, fun v F1 H1 t1 d g f1 g1 r1 u1 => ⟨F1, δ, t1, _, f1, u1, fun q ws es F2 H2 t2 h f2 g2 nq fq no2 e2 r2 ⟨hg, w⟩ => by
    subst hg
    have r1 : Rp c.K F2 v d := Rp.up g2.sF (show Rp c.K F1 v d from r1)
    have hq := f1.dn.gr.al q nq
    refine ⟨v, .ref q, rfl, fun σ' es' => ?_⟩
    subst es'
    refine l.nx F2 _ _ H2 t2 ((f2.setF i r1).setN j fq hq (fun m s em o z => ?_) e2 r2) (g1.sF.trans g2.sF) w
    by_cases im : i = m
    · subst im
      have lm := (List.getElem?_eq_some_iff.mp em).1
      rw [List.length_set] at lm
      rw [List.getElem?_set_self lm] at em
      cases em
      cases o
    · rw [List.getElem?_set_ne im] at em z
      exact no2 m s em o z⟩⟩
end
/-- texts that differ -/
def wNeS : Nat → D → Bool → D → Bool → (Nat → D → Bool → Prop) → Prop := fun t d _ e _ P => match d, e with
  | .str a, .str b => P t (.bl (!decide (a = b))) true
  | _, _ => False
theorem w_neS {c : Ct} : W2 c rNe wNeS := fun x y F H d e gx gy δ σ t Q P ft rx ry w k => by
  unfold wNeS at w
  split at w
  · rename_i a b
    rw [rx.strE, ry.strE]
    refine ⟨rfl, ?_⟩
    have e : decide (V.str a = V.str b) = decide (a = b) := decide_eq_decide.mpr ⟨fun h => by injection h, fun h => by rw [h]⟩
    rw [e]
    exact k _ F H t _ true ft (Gro.refl _ _ _) (.bl _) w
  · exact w.elim
end VL

set_option linter.all false
set_option maxRecDepth 100000
set_option maxHeartbeats 4000000
namespace VL
open PySem PySem.Spec PyProof.Rows L2 Nv
/-! # an __init__ with defaults -/
section
variable {P : Program} {w : World} {K : PySem.W.Frag} {mg : Str → Option Value} {base : Heap} {x qual : Str} {st : Stmt} {fa : Addr} {fd : FuncData} {N ps : List Str} {k : Nat} {C : Addr} {CI : Con}
theorem con_initD {dvs : List V} {kws : List (Str × V)} (F : FunD K x qual (defArgs st) (defBody st) (defScope st) dvs kws fa fd) (S : FnScope N ps (defScope st)) (len : ∀ m t ds Pq pe, CI m t ds Pq pe → ds.length + 1 = ps.length)
    (body : ∀ (c : Ct) (pe : Nat → Exn → Prop) (cdv : Value) (A : Around) (outer : List Env) (s : Shared) (H : Hp) (E : XK), K = c.K → Takes (cxOf (L2.CX P w) P w K mg base N qual (defScope st) fa cdv A outer s H E) (fun cls d _ H' => EXk c pe cls d H') → Passes (L2.CX P w) (cxOf (L2.CX P w) P w K mg base N qual (defScope st) fa cdv A outer s H E) (EXk c pe) → Room k (A.deeper (envOfC qual (defScope st) s.heap.objs.size fa cdv)) →
      ∃ u, PSs (cxOf (L2.CX P w) P w K mg base N qual (defScope st) fa cdv A outer s H E) (defBody st) (sV c u) ∧ ∀ t ds Pq, CI c.m t ds Pq pe → u (initE C Pq) t (.oi C [] :: frs0 ds (N.length - (ds.length + 1)))) : FnOk P w K mg base (L2.CX P w) (k + 1) fa fd ps (spI K C CI) := by
  refine F.ok (CX := L2.CX P w) S (fun vs H Q E h => ?_) (fun cdv A outer s H vs Q E hr h => ?_)
  · obtain ⟨c, t, ws, ds, Pq, pe, p, dx, rfl, _, _, _, _, _, _, r, hC, _⟩ := h
    rw [List.length_cons, r.length]
    exact len _ _ _ _ _ hC
  · obtain ⟨c, t, ws, ds, Pq, pe, p, dx, rfl, cK, cH, chs, hp, d, np, r, hC, q1, q2⟩ := h
    have tk : Takes (cxOf (L2.CX P w) P w K mg base N qual (defScope st) fa cdv A outer s H E) (fun cls d _ H' => EXk c pe cls d H') := (takes_of rfl rfl rfl rfl).imp fun cls dd σ H' z => q2 cls dd H' z
    obtain ⟨u, hu, hw⟩ := body c pe cdv A outer s H E cK.symm tk (passes_call tk fun _ _ _ _ h => h) hr
    refine ⟨_, hu, c.F0, _, t, _, start_self d hp (by rw [chs]; exact List.mem_cons_self) np (cK ▸ r), hw t ds Pq hC, ?_, ?_, ?_, ?_⟩
    · intro F' δ' σ' H' t' f' _ p1
      have p1 : iNx C Pq t' δ' := p1
      unfold iNx at p1
      split at p1
      · rename_i C' fs e1
        obtain ⟨rfl, p1⟩ := p1
        obtain ⟨a, dx', gs, z1, z2, z3, z4, z5⟩ := f'.oiE e1
        have ap : a = p := by
          rw [chs] at z2
          rcases List.mem_cons.mp z2 with y | y
          · exact y
          · obtain ⟨l, cs, e⟩ := mem_hsm y
            exact absurd rfl (z3 _ _ _ e)
        subst ap
        exact q1 F' H' t' dx' gs fs f'.dn z4 (cK ▸ z5) p1
      · exact p1.elim
    · intro F' δ' σ' H' t' f' _ p
      exact p.elim
    · intro F' δ' σ' H' t' f' _ p
      exact p.elim
    · intro v F' H' t' dd d' _ r' p
      exact p.elim
end
end VL

set_option linter.all false
set_option maxRecDepth 100000
set_option maxHeartbeats 4000000
namespace Nv
open PySem PySem.Spec PyProof.Rows L2 LamX
/-! # lambdas whose own names hide names of the maker: those slots are wiped -/
theorem wipeW_len (σ : L2.St) : ∀ ow : List Nat, (L2.wipe σ ow).length = σ.length
  | [] => rfl
  | i :: ow => by
    show ((L2.wipe σ ow).set i none).length = _
    rw [List.length_set, wipeW_len σ ow]
theorem wipeW_get {σ : L2.St} : ∀ {ow : List Nat} {i : Nat} {v : V}, (L2.wipe σ ow)[i]? = some (some v) → i ∉ ow ∧ σ[i]? = some (some v)
  | [], i, v, h => ⟨by simp, h⟩
  | j :: ow, i, v, h => by
    have h : ((L2.wipe σ ow).set j none)[i]? = some (some v) := h
    rw [List.getElem?_set] at h
    split at h
    · split at h <;> cases h
    · rename_i ne
      obtain ⟨h1, h2⟩ := wipeW_get h
      exact ⟨by simp only [List.mem_cons, not_or]; exact ⟨fun z => ne z.symm, h1⟩, h2⟩
structure LamW (N : List Str) (sc scope : Scope) (ow : List Nat) : Prop where
  kind : scope.kind = .function
  co : scope.isCoroutine = false
  gen : scope.isGenerator = false
  own : ∀ y ∈ scope.names, y.2 ≠ .cell ∧ (y.2 = .local → ∀ i : Nat, N[i]? = some y.1 → i ∈ ow)
  free : ∀ y ∈ scope.names, y.2 = .free → sc.names.lookup y.1 = some .cell ∨ sc.names.lookup y.1 = some .free
def lamWB (N : List Str) (sc scope : Scope) (ow : List Nat) : Bool :=
  decide (scope.kind = .function) && !scope.isCoroutine && !scope.isGenerator && scope.names.all fun y => !decide (y.2 = .cell) && (!decide (y.2 = .local) || (List.range N.length).all fun i => !decide (N[i]? = some y.1) || decide (i ∈ ow)) && (!decide (y.2 = .free) || decide (sc.names.lookup y.1 = some .cell) || decide (sc.names.lookup y.1 = some .free))
theorem lamW_by {N : List Str} {sc scope : Scope} {ow : List Nat} (h : lamWB N sc scope ow = true) : LamW N sc scope ow := by
  unfold lamWB at h
  simp only [Bool.and_eq_true, Bool.or_eq_true, Bool.not_eq_true', decide_eq_true_eq, decide_eq_false_iff_not, List.all_eq_true] at h
  obtain ⟨⟨⟨h1, h2⟩, h3⟩, h4⟩ := h
  refine ⟨h1, h2, h3, fun y hy => ⟨(h4 y hy).1.1, fun e i hi => ?_⟩, fun y hy e => ?_⟩
  · rcases (h4 y hy).1.2 with z | z
    · exact absurd e z
    · rcases z i (List.mem_range.mpr (List.getElem?_eq_some_iff.mp hi).1) with w | w
      · exact absurd hi w
      · exact w
  · rcases (h4 y hy).2 with (z | z) | z
    · exact absurd e z
    · exact .inl z
    · exact .inr z
section
variable {X : Cx} {pins : List (Addr × Obj)} {σ : L2.St} {H : Hp} {s : Shared}
theorem LamW.has {scope : Scope} {ow : List Nat} (L : LamW X.N X.env.scope scope ow) (ok : X.Ok) : ∀ y ∈ scope.names, y.2 = .free → ∃ c, X.env.cells.lookup y.1 = some c := fun y hy e => by
  rcases L.free y hy e with k | k
  · exact ok.has _ (.inl k)
  · exact ok.has _ (.inr k)
variable {HZ : Hp} {s1 : Shared} {ow : List Nat}
theorem lam_startW {A : Around} {outer : List Env} {E : XK} {scope : Scope} {f c' : Addr} {h₁ : Heap} {tk : Nat} {mm : Str → Option Value} (I : Inv X pins σ H s) (L : LamW X.N X.env.scope scope ow) (e0 : Env0 X.prog X.w X.K X.mg X.base A outer s1 HZ) (cool : A.handled = none)
    (un : Un (frs X.stack) [] H HZ s.heap s1.heap) (hns : h₁.Ns s1.heap.objs.size mm) (kp : ∀ b o, s1.heap.get? b = some o → h₁.get? b = some o) :
    Inv (lamCx X A outer s1 HZ E scope f c') [] (L2.wipe σ ow) HZ { s1 with heap := h₁, toks := tk } := by
  have hfree := L.has I.ok
  have cm : ∀ {y c}, (cloFrom X.env.cells scope.names []).lookup y = some c → X.env.cells.lookup y = some c := fun {y c} e => by
    rcases cloFrom_mem (PySem.mem_of_lookup e) with hm | ⟨h1, h2⟩
    · cases hm
    · obtain ⟨c1, hc⟩ := hfree _ h1 rfl
      have hc : X.env.cells.lookup y = some c1 := hc
      have e2 : c = c1 := by
        rw [h2, hc] <;> rfl
      rw [e2]
      exact hc
  have look : ∀ {y}, scope.names.lookup y = some .free → ∃ c, (cloFrom X.env.cells scope.names []).lookup y = some c := fun {y} hl => by
    have hy : (y, NameKind.free) ∈ scope.names := PySem.mem_of_lookup hl
    exact mem_lookup (cloFrom_has (cells := X.env.cells) (acc := []) hy)
  have cellK : ∀ {c : Addr} {v : Option Value}, H c = none → s.heap.IsCell c v → h₁.IsCell c v := fun {c v} n ⟨o, ho, hd⟩ => by
    obtain ⟨sl, q⟩ := un.any ho n (by simp)
    exact ⟨_, kp _ _ q, hd⟩
  have noA : ∀ b : Addr, b ∉ (lamCx X A outer s1 HZ E scope f c').ex := fun b z => absurd (show b ∈ ([] : List Addr) from z) (by simp)
  refine ⟨⟨e0.mod, L.kind, rfl, rfl, Nat.le_refl _, fun y z c e1 e2 => I.ok.inj y z c (cm e1) (cm e2), fun y hy => ?_, fun y c z _ => ?_, fun _ => cool, Around.frames_deeper e0.frames, .inr ⟨rfl, rfl⟩, fun b z => absurd z (noA b), e0.bs, e0.bsz, fun b _ _ => noA b,
      fun b z => absurd z (noA b), e0.funs, e0.frf⟩,
    rfl, e0.bare, Un.kept kp, ⟨_, hns, fun i y v e1 e2 e3 => ?_⟩, fun y c e => ?_, e0.hok.fresh (Nat.le_refl _), fun y c e => ?_, fun q hq => absurd (show q ∈ ([] : List (Addr × Obj)) ++ [] from hq) (by simp), e0.hok.kept kp, (wipeW_len σ ow).trans I.len⟩
  · have hy : scope.names.lookup y = some .cell ∨ scope.names.lookup y = some .free := hy
    rcases hy with hy | hy
    · exact absurd rfl (L.own _ (PySem.mem_of_lookup hy)).1
    · exact look hy
  · have z : false = true := z
    cases z
  · have e3 : Vis scope y := e3
    rcases e3 with k | k | k
    · exact absurd ((L.own _ (PySem.mem_of_lookup k)).2 rfl i e1) (wipeW_get e2).1
    · exact absurd rfl (L.own _ (PySem.mem_of_lookup k)).1
    · obtain ⟨m, hn, hl⟩ := I.loc
      have hvis : Vis X.env.scope y := (L.free _ (PySem.mem_of_lookup k) rfl).elim (fun k => .inr (.inl k)) (fun k => .inr (.inr k))
      obtain ⟨w', r, q⟩ := hl i y v e1 (wipeW_get e2).2 hvis
      obtain ⟨c2, h2⟩ := look k
      refine ⟨w', r, .inr ⟨.inr k, c2, h2, ?_⟩⟩
      have c1 := cm h2
      rcases q with ⟨k', _⟩ | ⟨_, c3, e', z⟩
      · have k' : X.env.scope.names.lookup y = some .local := k'
        rcases L.free _ (PySem.mem_of_lookup k) rfl with k2 | k2 <;> rw [show X.env.scope.names.lookup y = _ from k2] at k' <;> cases k'
      · rw [c1] at e'
        cases e'
        exact cellK (I.freeC y _ c1) z
  · obtain ⟨w', z⟩ := I.cell y c (cm e)
    exact ⟨w', cellK (I.freeC y c (cm e)) z⟩
  · obtain ⟨v, o, ho, hd⟩ := I.cell y c (cm e)
    exact un.free c o ho (I.freeC y c (cm e)) (by simp)
/-- x(), in the def that got the lambda -/
theorem pe_actW {CXg : CXT} {Eg : XK} {Ng : List Str} {qg : Str} {sg : Scope} {g f c' : Addr} {cdg dV doc pm ctv : Value} {params : Arguments} {body : Expr} {scope : Scope} {k j : Nat} {a : Str} {pn : List (Addr × Obj)} {xe : Value → Shared → Prop} {W : WX} {E : XK} {tb : TE} {p1 p2 : Pos} {i : Int} {ow : List Nat}
    (I : Inv X pins σ H s) (L : LamW X.N X.env.scope scope ow) (D : DefAt params dV i H (frs X.stack) s.heap) (hf : s.heap.get? f = some (PySem.W.kdv_obj "<lambda>" (X.env.qual ++ "<lambda>") params (.expr body) scope (cloFrom X.env.cells scope.names []) dV doc pm c' ctv)) (hfn : H f = none) (hfr : f ∉ frs X.stack)
    (B : LamBinds params body scope i)
    (tk : Takes ((cxOf CXg X.prog X.w X.K X.mg X.base Ng qg sg g cdg X.A X.stack s H Eg).tr pn xe) W) (hW : ∀ cls d σ' H', E cls d H' → W cls d σ' H') (hr : Room (k + 1) (X.A.deeper (envOfC qg sg s.heap.objs.size g cdg)))
    (hbody : ∀ (A : Around) (outer : List Env) (s : Shared) (H : Hp), Room k (A.deeper (lamEnv X scope s.heap.objs.size f c')) → PE (lamCx X A outer s H E scope f c') body tb)
    (hN : Ng[j]? = some a) (hv : Vis sg a) (hd : (a == ("__debug__" : Str)) = false := by decide) (hcd : (a == ("__classdict__" : Str)) = false := by decide) :
    PE ((cxOf CXg X.prog X.w X.K X.mg X.base Ng qg sg g cdg X.A X.stack s H Eg).tr pn xe) (.Call (.Name a p1) [] [] p2)
      (fun σZ HZ Q => σZ[j]? = some (some (.ref f)) ∧ HZ c' = some (CodeO c' (X.env.qual ++ "<lambda>")) ∧ tb (L2.wipe σ ow) HZ Q) := by
  refine ⟨fun pinsZ sZ σZ HZ Q IZ h => ?_⟩
  obtain ⟨hs, hc, ht⟩ := h
  refine wpAny_Call_Name_kw (thn ((pe_var (pos := p1) (i := j) hN hv hd hcd).run pinsZ sZ σZ HZ (fun v H1 => v = .ref f ∧ H1 = HZ) IZ ⟨.ref f, hs, rfl, rfl⟩) fun u s1 ⟨v, H1, I1, r1, q1⟩ => ?_)
  obtain ⟨ev, eH⟩ := q1
  subst ev
  rw [eH] at I1
  obtain rfl : u = Value.ref f := r1
  have of1 : s1.heap.get? f = some (PySem.W.kdv_obj "<lambda>" (X.env.qual ++ "<lambda>") params (.expr body) scope (cloFrom X.env.cells scope.names []) dV doc pm c' ctv) := I1.base.keep f _ hf hfn hfr (fun z => nomatch (show f ∈ ([] : List Addr) from z))
  refine PySem.W.callWith_F0 ⟨_, _, _, _, of1⟩ ?_
  have un : Un (frs X.stack) [] H HZ s.heap s1.heap := I1.base
  obtain ⟨⟨oc, vs, t, hoc, hdc, hvc⟩, _, _⟩ := I1.hok c' _ hc
  obtain ⟨binds, hB, hloc⟩ := B (X.env.qual ++ "<lambda>") (cloFrom X.env.cells scope.names []) dV doc pm (.ref c') ctv s1 (by
    rcases D with d | ⟨d, t, tk, e, g1, g2, g3⟩
    · exact .inl d
    · exact .inr ⟨d, t, tk, e, un.keep t _ g1 g2 g3 (by simp)⟩)
  have rc : codeAny (model X.prog X.w) (X.A.deeper (envOfC qg sg s.heap.objs.size g cdg)) (.call (.ref f) ⟨[], []⟩) (CR (L2.CX X.prog X.w) (envOfC qg sg s.heap.objs.size g cdg :: X.stack) X.prog X.w HZ s1 Q E) s1 := by
    refine PySem.W.kla_callFunE hr.depth of1 rfl L.co L.gen rfl ⟨c', oc, vs, t, rfl, hoc, hdc, hvc⟩ (hB _ _ _ _ ?_)
    refine wpAny_newFunctionEnv (fun y hy => (L.own y hy).1) hloc (fun h₁ hns hsb => ⟨I1.nolimit.fresh _ hsb, ?_⟩) L.kind
    show codeAny _ _ (.expr body (lamEnv X scope s1.heap.objs.size f c')) _ _
    have kp : ∀ b o, s1.heap.get? b = some o → h₁.get? b = some o := fun b o e => hsb.extBut b o (Nat.ne_of_lt (Heap.lt_size e)) (Heap.get?_push_of_some _ e)
    have J : Inv (lamCx X (X.A.deeper (envOfC qg sg s.heap.objs.size g cdg)) (envOfC qg sg s.heap.objs.size g cdg :: X.stack) s1 HZ E scope f c') [] (L2.wipe σ ow) HZ { s1 with heap := h₁, toks := s1.toks + binds.length } :=
      lam_startW I L I1.env0 hr.hd un hns kp
    refine PySem.W.kla_codeExpr (wpAny_mono ((hbody _ _ s1 HZ (hr.deeper _)).run [] _ _ HZ Q J ht) (fun v s' hq => ?_) fun e s' hq => hq)
    obtain ⟨w', H', J', rv, q⟩ := hq
    exact ⟨w', H', J'.os, J'.bare, J'.base, J'.hok, rv, q⟩
  have hx : Passes (L2.CX X.prog X.w) ((cxOf CXg X.prog X.w X.K X.mg X.base Ng qg sg g cdg X.A X.stack s H Eg).tr pn xe) E := passes_call tk hW
  refine wpAny_call (codeAny_mono rc fun r s' hq => ?_)
  cases r with
  | error e => exact hx pinsZ σZ HZ s1 e s' I1 hq
  | ok fl =>
    cases fl with
    | ret u => exact I1.after hq
    | next => exact False.elim hq
    | brk => exact False.elim hq
    | cont => exact False.elim hq
end

section
variable {X : Cx}
/-- x(lambda: body), x(lambda a=0: body): x's body is told by GivesTo, what the lambda's body asks by t -/
theorem pe_heardW {T : List (Addr × Str)} {TT : (XK → Hp → VK → Prop) → Hp → VK → Prop} {x a : Str} {g c P : Addr} {k : Nat} {pg : Arguments} {bg : List Stmt} {sg : Scope} {dV kV doc pm cdv ct oc : Value} {an od : Option Addr} {osl : Array (Option Value)} {Ng : List Str}
    {params : Arguments} {body : Expr} {scope : Scope} {t : XK → TE} {p lpos pos : Pos} {i : Int} {ow : List Nat} (hg : Gl X x) (hm : X.mg x = some (.ref g)) (hk : PySem.W.keepIn X.K (.ref g) = true)
    (lk : X.K.lookup g = some ⟨oc, od, .func (PySem.W.fnOf x x pg bg sg dV kV doc pm an cdv ct), osl⟩) (hcg : PySem.W.codeIn X.K cdv x = true) (hb : L2.Binds X.K (PySem.W.fnOf x x pg bg sg dV kV doc pm an cdv ct) [a] []) (Sg : FnScope Ng [a] sg) (hNg : Ng[0]? = some a) (hva : Vis sg a)
    (hG : GivesTo X Ng x sg g cdv bg a (X.env.qual ++ "<lambda>") TT)
    (TB : TabB X.base X.mg c P) (hcode : X.env.code = .ref c) (hmT : (P, X.env.qual ++ "<lambda>") ∈ T) (hu : ∀ p ∈ T, p.1 = P → p.2 = X.env.qual ++ "<lambda>") (hr : Room (k + 2) X.A) (L : LamW X.N X.env.scope scope ow)
    (hd0 : params.defaults = [] ∨ ∃ j p0, params.defaults = [.Constant (.int i) j p0]) (hk0 : params.kw_defaults = []) (B : LamBinds params body scope i)
    (hbody : ∀ (A : Around) (outer : List Env) (s : Shared) (H : Hp) (E : XK) (f c' : Addr), Room k (A.deeper (lamEnv X scope s.heap.objs.size f c')) → PE (lamCx X A outer s H E scope f c') body (t E))
    (hdb : (x == ("__debug__" : Str)) = false := by decide) (hd : (a == ("__debug__" : Str)) = false := by decide) (hcd : (a == ("__classdict__" : Str)) = false := by decide) :
    PE X (.Call (.Name x p) [.Lambda params body scope lpos] [] pos) (fun σ H Q => tLam T TT t (L2.wipe σ ow) H Q) := by
  refine ⟨fun pins s σ H Q I h => ?_⟩
  obtain ⟨hT, h⟩ := h
  refine wpAny_Call_Name_kw (ld_glob I hg hm ?_ hdb)
  refine PySem.W.callWith_K (h₀ := X.base) I.ok.mod.kin hk ?_ (by rfl) (by rfl)
  show wpAny _ _ (spliced ((false, eval (.Lambda params body scope lpos) X.env) :: backTo pos (starEach [] X.env))) _ _ s
  refine Calls.spliced_cons (lam_makeD I TB hcode hmT hu hT hd0 hk0 (L.has I.ok) fun f c' dV' doc' pm' ctv H1 s' I1 eN T1 D hf hfn hfr hco => ?_)
  refine Calls.spliced_nil ⟨I1.kIn, ?_⟩
  have rc : codeAny (model X.prog X.w) X.A (.call (.ref g) ⟨[.ref f], []⟩) (CR C8.CX0 X.stack X.prog X.w H1 s' Q C8.E0) s' := by
    refine run_ofS (N := Ng) (ps := [a]) (us := [.ref f]) (vs := [.ref f]) lk hcg Sg hr I1.env0 (hb s' [.ref f] I1.kIn rfl) (.cons rfl .nil) rfl fun hr' => ?_
    obtain ⟨t', ht', hq'⟩ := hG f c' s' H1 Q (fun E H' Q' => t E (L2.wipe σ ow) H' Q') (fun W pn xe E p1 p2 tk hW => pe_actW (j := 0) I1 L D hf hfn hfr B tk hW hr' (fun A outer s H hr2 => hbody A outer s H E f c' hr2) hNg hva hd hcd) hco (h H1 eN T1)
    exact ⟨t', ht'.nox, hq'⟩
  refine wpAny_call (codeAny_mono rc fun r s2 hq => ?_)
  cases r with
  | error e => exact (show False from hq).elim
  | ok fl =>
    cases fl with
    | ret u => exact I1.after hq
    | next => exact False.elim hq
    | brk => exact False.elim hq
    | cont => exact False.elim hq
end
end Nv

set_option linter.all false
set_option maxRecDepth 100000
set_option maxHeartbeats 4000000
namespace VL
open PySem PySem.Spec PyProof.Rows L2 Nv
/-! # contracts of functions -/
def con1 (pre : D → Prop) (f : D → D) : Con := fun _ t ds Pq _ => match ds with
  | [a] => pre a ∧ Pq t (f a)
  | _ => False
def con2 (pre : D → D → Prop) (f : D → D → D) : Con := fun _ t ds Pq _ => match ds with
  | [a, b] => pre a b ∧ Pq t (f a b)
  | _ => False
def con3 (pre : D → D → D → Prop) (f : D → D → D → D) : Con := fun _ t ds Pq _ => match ds with
  | [a, b, c] => pre a b c ∧ Pq t (f a b c)
  | _ => False
def con4 (pre : D → D → D → D → Prop) (f : D → D → D → D → D) : Con := fun _ t ds Pq _ => match ds with
  | [a, b, c, d] => pre a b c d ∧ Pq t (f a b c d)
  | _ => False
/-- what comes, or an error -/
def endE (Pq : Nat → D → Prop) (pe : Nat → Exn → Prop) (t : Nat) : Except Exn D → Prop
  | .ok d => Pq t d
  | .error e => pe t e
def con1E (pre : D → Prop) (f : D → Except Exn D) : Con := fun _ t ds Pq pe => match ds with
  | [a] => pre a ∧ endE Pq pe t (f a)
  | _ => False
def con2E (pre : D → D → Prop) (f : D → D → Except Exn D) : Con := fun _ t ds Pq pe => match ds with
  | [a, b] => pre a b ∧ endE Pq pe t (f a b)
  | _ => False
def con3E (pre : D → D → D → Prop) (f : D → D → D → Except Exn D) : Con := fun _ t ds Pq pe => match ds with
  | [a, b, c] => pre a b c ∧ endE Pq pe t (f a b c)
  | _ => False
section
variable {P : Program} {w : World} {K : PySem.W.Frag} {mg : Str → Option Value} {base : Heap} {x qual : Str} {st : Stmt} {fa : Addr} {fd : FuncData} {N ps : List Str} {k : Nat}
/-- a def's reading and what it comes to, for contracts of so many arguments -/
abbrev Bod (P : Program) (w : World) (K : PySem.W.Frag) (mg : Str → Option Value) (base : Heap) (N : List Str) (qual : Str) (st : Stmt) (fa : Addr) (k : Nat) (J : Ct → (Nat → Exn → Prop) → US → Prop) : Prop :=
  ∀ (c : Ct) (pe : Nat → Exn → Prop) (cdv : Value) (A : Around) (outer : List Env) (s : Shared) (H : Hp) (E : XK), K = c.K → Takes (cxOf (L2.CX P w) P w K mg base N qual (defScope st) fa cdv A outer s H E) (fun cls d _ H' => EXk c pe cls d H') → Passes (L2.CX P w) (cxOf (L2.CX P w) P w K mg base N qual (defScope st) fa cdv A outer s H E) (EXk c pe) → Room k (A.deeper (envOfC qual (defScope st) s.heap.objs.size fa cdv)) →
    ∃ u, PSs (cxOf (L2.CX P w) P w K mg base N qual (defScope st) fa cdv A outer s H E) (defBody st) (sV c u) ∧ J c pe u
theorem ok1 {pre : D → Prop} {f : D → D} (F : Fun K x qual st fa fd) (S : FnScope N ps (defScope st)) (hn : ps.length = 1 := by rfl) (body : Bod P w K mg base N qual st fa k fun c pe u => ∀ t a Pq, pre a → Pq t (f a) → u (retE Pq) t (frs0 [a] (N.length - 1))) : FnOk P w K mg base (L2.CX P w) (k + 1) fa fd ps (spV K (con1 pre f)) := by
  refine con_ok F S (fun m t ds Pq pe h => ?_) (fun c pe cdv A outer s H E hK tk hx hr => ?_)
  · match ds, h with | [a], _ => rw [hn]; rfl
  · obtain ⟨u, hu, q⟩ := body c pe cdv A outer s H E hK tk hx hr
    exact ⟨u, hu, fun t ds Pq h => match ds, h with | [a], ⟨h1, h2⟩ => q t a Pq h1 h2⟩
theorem ok2 {pre : D → D → Prop} {f : D → D → D} (F : Fun K x qual st fa fd) (S : FnScope N ps (defScope st)) (hn : ps.length = 2 := by rfl) (body : Bod P w K mg base N qual st fa k fun c pe u => ∀ t a b Pq, pre a b → Pq t (f a b) → u (retE Pq) t (frs0 [a, b] (N.length - 2))) : FnOk P w K mg base (L2.CX P w) (k + 1) fa fd ps (spV K (con2 pre f)) := by
  refine con_ok F S (fun m t ds Pq pe h => ?_) (fun c pe cdv A outer s H E hK tk hx hr => ?_)
  · match ds, h with | [a, b], _ => rw [hn]; rfl
  · obtain ⟨u, hu, q⟩ := body c pe cdv A outer s H E hK tk hx hr
    exact ⟨u, hu, fun t ds Pq h => match ds, h with | [a, b], ⟨h1, h2⟩ => q t a b Pq h1 h2⟩
theorem ok3 {pre : D → D → D → Prop} {f : D → D → D → D} (F : Fun K x qual st fa fd) (S : FnScope N ps (defScope st)) (hn : ps.length = 3 := by rfl) (body : Bod P w K mg base N qual st fa k fun c pe u => ∀ t a b d Pq, pre a b d → Pq t (f a b d) → u (retE Pq) t (frs0 [a, b, d] (N.length - 3))) : FnOk P w K mg base (L2.CX P w) (k + 1) fa fd ps (spV K (con3 pre f)) := by
  refine con_ok F S (fun m t ds Pq pe h => ?_) (fun c pe cdv A outer s H E hK tk hx hr => ?_)
  · match ds, h with | [a, b, d], _ => rw [hn]; rfl
  · obtain ⟨u, hu, q⟩ := body c pe cdv A outer s H E hK tk hx hr
    exact ⟨u, hu, fun t ds Pq h => match ds, h with | [a, b, d], ⟨h1, h2⟩ => q t a b d Pq h1 h2⟩
theorem ok4 {pre : D → D → D → D → Prop} {f : D → D → D → D → D} (F : Fun K x qual st fa fd) (S : FnScope N ps (defScope st)) (hn : ps.length = 4 := by rfl) (body : Bod P w K mg base N qual st fa k fun c pe u => ∀ t a b d e Pq, pre a b d e → Pq t (f a b d e) → u (retE Pq) t (frs0 [a, b, d, e] (N.length - 4))) : FnOk P w K mg base (L2.CX P w) (k + 1) fa fd ps (spV K (con4 pre f)) := by
  refine con_ok F S (fun m t ds Pq pe h => ?_) (fun c pe cdv A outer s H E hK tk hx hr => ?_)
  · match ds, h with | [a, b, d, e], _ => rw [hn]; rfl
  · obtain ⟨u, hu, q⟩ := body c pe cdv A outer s H E hK tk hx hr
    exact ⟨u, hu, fun t ds Pq h => match ds, h with | [a, b, d, e], ⟨h1, h2⟩ => q t a b d e Pq h1 h2⟩
theorem ok1E {pre : D → Prop} {f : D → Except Exn D} (F : Fun K x qual st fa fd) (S : FnScope N ps (defScope st)) (hn : ps.length = 1 := by rfl) (body : Bod P w K mg base N qual st fa k fun c pe u => ∀ t a Pq, pre a → endE Pq pe t (f a) → u (retE Pq) t (frs0 [a] (N.length - 1))) : FnOk P w K mg base (L2.CX P w) (k + 1) fa fd ps (spV K (con1E pre f)) := by
  refine con_ok F S (fun m t ds Pq pe h => ?_) (fun c pe cdv A outer s H E hK tk hx hr => ?_)
  · match ds, h with | [a], _ => rw [hn]; rfl
  · obtain ⟨u, hu, q⟩ := body c pe cdv A outer s H E hK tk hx hr
    exact ⟨u, hu, fun t ds Pq h => match ds, h with | [a], ⟨h1, h2⟩ => q t a Pq h1 h2⟩
theorem ok2E {pre : D → D → Prop} {f : D → D → Except Exn D} (F : Fun K x qual st fa fd) (S : FnScope N ps (defScope st)) (hn : ps.length = 2 := by rfl) (body : Bod P w K mg base N qual st fa k fun c pe u => ∀ t a b Pq, pre a b → endE Pq pe t (f a b) → u (retE Pq) t (frs0 [a, b] (N.length - 2))) : FnOk P w K mg base (L2.CX P w) (k + 1) fa fd ps (spV K (con2E pre f)) := by
  refine con_ok F S (fun m t ds Pq pe h => ?_) (fun c pe cdv A outer s H E hK tk hx hr => ?_)
  · match ds, h with | [a, b], _ => rw [hn]; rfl
  · obtain ⟨u, hu, q⟩ := body c pe cdv A outer s H E hK tk hx hr
    exact ⟨u, hu, fun t ds Pq h => match ds, h with | [a, b], ⟨h1, h2⟩ => q t a b Pq h1 h2⟩
end
/-! # comprehensions and loops without draws -/
mutual
theorem uT_mono : ∀ (T : Tg) (d : D) (δ : List Sl) (p p' : List Sl → Prop), (∀ δ', p δ' → p' δ') → uT T d δ p → uT T d δ p'
  | .nm i, d, δ, p, p', h, u => by
    simp only [uT] at u ⊢
    exact h _ u
  | .tp ts, d, δ, p, p', h, u => by
    simp only [uT] at u ⊢
    split at u
    · exact ⟨u.1, uTs_mono ts _ δ p p' h u.2⟩
    · exact u
theorem uTs_mono : ∀ (ts : List Tg) (ds : List D) (δ : List Sl) (p p' : List Sl → Prop), (∀ δ', p δ' → p' δ') → uTs ts ds δ p → uTs ts ds δ p'
  | [], ds, δ, p, p', h, u => by
    cases ds with
    | nil => simp only [uTs] at u ⊢; exact h _ u
    | cons d ds => simp only [uTs] at u
  | t :: ts, ds, δ, p, p', h, u => by
    cases ds with
    | nil => simp only [uTs] at u
    | cons d ds =>
      simp only [uTs] at u ⊢
      exact uT_mono t d δ _ _ (fun δ' u => uTs_mono ts ds δ' p p' h u) u
end
theorem lcG_fm {α : Type} {T : Tg} {ut : UT} {ue : UE} {δw : List Sl} {t : Nat} {k : Nat → List D → Prop} {enc : α → D} (f : α → Option D) : ∀ {l : List α} {acc : List D},
    (∀ a ∈ l, ∀ (Kk : Nat → D → Bool → Prop) (Nn : Nat → Prop), (match f a with | some d => Kk t d true | none => Nn t) → uT T (enc a) δw fun δ2 => ut t δ2 fun t1 b => (b = true → ue t1 δ2 Kk) ∧ (b = false → Nn t1)) →
    k t (acc ++ l.filterMap f) → uLcG T ut ue δw (l.map enc) acc t k
  | [], acc, _, q => by simpa [uLcG] using q
  | a :: l, acc, h, q => by
    rw [List.map_cons]
    simp only [uLcG]
    refine h a List.mem_cons_self _ (fun t1 => uLcG T ut ue δw (l.map enc) acc t1 k) ?_
    cases e : f a with
    | none =>
      rw [List.filterMap_cons_none e] at q
      exact lcG_fm f (fun b hb => h b (List.mem_cons_of_mem _ hb)) q
    | some d =>
      rw [List.filterMap_cons_some e] at q
      refine ⟨rfl, lcG_fm f (fun b hb => h b (List.mem_cons_of_mem _ hb)) ?_⟩
      simpa using q
/-- no test -/
theorem lcG_map {α : Type} {T : Tg} {ue : UE} {δw : List Sl} {t : Nat} {k : Nat → List D → Prop} {enc : α → D} (f : α → D) {l : List α} {acc : List D}
    (h : ∀ a ∈ l, ∀ (Kk : Nat → D → Bool → Prop), Kk t (f a) true → uT T (enc a) δw fun δ2 => ue t δ2 Kk) (q : k t (acc ++ l.map f)) : uLcG T uYes ue δw (l.map enc) acc t k := by
  refine lcG_fm (fun a => some (f a)) (fun a ha Kk Nn hq => ?_) (by rw [List.filterMap_eq_map']; exact q)
  have := h a ha Kk hq
  have mono : ∀ (T : Tg) (d : D) (δ : List Sl) (p p' : List Sl → Prop), (∀ δ', p δ' → p' δ') → uT T d δ p → uT T d δ p' := fun T d δ p p' hp u => uT_mono T d δ p p' hp u
  exact mono T _ _ _ _ (fun δ' u => by
    simp only [uYes]
    exact ⟨fun _ => u, fun z => by cases z⟩) this
/-! # what the checks tell of trees -/
mutual
/-- numbers, truths, texts, None, lists and tuples of such -/
def D.ok : D → Bool
  | .non | .bl _ | .int _ | .str _ => true
  | .lst ds => D.oks ds
  | .tup ds => D.oks ds
  | _ => false
def D.oks : List D → Bool
  | [] => true
  | d :: ds => d.ok && D.oks ds
end
theorem oks_all : ∀ ds : List D, D.oks ds = ds.all D.ok
  | [] => by simp [D.oks]
  | d :: ds => by simp [D.oks, oks_all ds]
theorem ok_row {d : D} {ds : List D} (h : d.ok = true) (e : rowD d = some ds) : ds.all D.ok = true := by
  cases d <;> first | cases e | skip
  · simpa only [D.ok, oks_all] using h
  · simpa only [D.ok, oks_all] using h
def okD (d : D) : Prop := d.ok = true
def isJ : D → Bool
  | .int _ => true
  | _ => false
/-- None or a number -/
def optI : D → Option (Option Int)
  | .non => some none
  | .int i => some (some i)
  | _ => none
def geB (v : Int) : Option Int → Bool
  | none => true
  | some l => decide (l ≤ v)
def leB (v : Int) : Option Int → Bool
  | none => true
  | some h => decide (v ≤ h)
/-- a number within bounds -/
def numIn (d : D) (lo hi : Option Int) : Bool := match d with
  | .int v => geB v lo && leB v hi
  | _ => false
def withinD (d lo hi : D) : Bool := match optI lo, optI hi with
  | some l, some h => numIn d l h
  | _, _ => false
def isPt (d : D) : Bool := match rowD d with
  | some [x, y] => isJ x && isJ y
  | _ => false
def isSq (d : D) : Bool := match rowD d with
  | some [x, y] => numIn x (some (-99)) (some 99) && numIn y (some (-99)) (some 99)
  | _ => false
def CisI : Con := con1 okD fun d => .bl (isJ d)
def CisW : Con := con3 (fun d l h => okD d ∧ (optI l).isSome = true ∧ (optI h).isSome = true) fun d l h => .bl (withinD d l h)
def CisR : Con := con1 okD fun d => .bl (rowD d).isSome
def CisP : Con := con1 okD fun d => .bl (isPt d)
def CisS : Con := con1 okD fun d => .bl (isSq d)
theorem isPt_eq {d : D} (h : isPt d = true) : ∃ i j, rowD d = some [.int i, .int j] := by
  unfold isPt at h
  split at h
  · rename_i x y e
    cases x <;> cases y <;> simp only [isJ, Bool.and_true, Bool.and_false, Bool.false_and, Bool.true_and, Bool.false_eq_true] at h
    exact ⟨_, _, e⟩
  · cases h
theorem noOi_fr (d : D) : noOi (some (.fr d)) = true := rfl
theorem noOi_un : noOi (some .un) = true := rfl
theorem noOi_ow (ds : List D) : noOi (some (.ow ds)) = true := rfl
/-- an item of an encoded list -/
theorem atI_map {α : Type} (f : α → D) (l : List α) (n : Nat) : atI (l.map f) (n : Int) = l[n]?.map f := by
  cases e : l[n]? with
  | some a => exact atI_nat (by rw [List.getElem?_map, e]; rfl)
  | none =>
    have := List.getElem?_eq_none_iff.mp e
    unfold atI ixN
    rw [List.length_map, if_pos (by omega), if_neg (by omega)]
    rfl
theorem atI0 (x : D) (r : List D) : atI (x :: r) 0 = some x := atI_nat (j := 0) rfl
theorem atI1 (x y : D) (r : List D) : atI (x :: y :: r) 1 = some y := atI_nat (j := 1) rfl
end VL

set_option linter.all false
set_option maxRecDepth 100000
set_option maxHeartbeats 4000000
namespace VL
open PySem PySem.Spec PyProof.Rows L2 Nv
/-! # points, sides; their order -/
abbrev Pt := Int × Int
abbrev Sd := Pt × Pt
def encP (p : Pt) : D := .tup [.int p.1, .int p.2]
def encS (s : Sd) : D := .tup [encP s.1, encP s.2]
def ltP (p q : Pt) : Bool := decide (p.1 < q.1) || (decide (p.1 = q.1) && decide (p.2 < q.2))
def ltS (s u : Sd) : Bool := ltP s.1 u.1 || (decide (s.1 = u.1) && ltP s.2 u.2)
/-- a strict order of all -/
structure Ord {α : Type} (lt : α → α → Bool) : Prop where
  irr : ∀ a, lt a a = false
  tr : ∀ a b c, lt a b = true → lt b c = true → lt a c = true
  tot : ∀ a b, lt a b = false → lt b a = false → a = b
theorem Ord.asym {α : Type} {lt : α → α → Bool} (o : Ord lt) {a b : α} (h : lt a b = true) : lt b a = false := by
  cases e : lt b a with
  | false => rfl
  | true =>
    have := o.tr a b a h e
    rw [o.irr] at this
    cases this
theorem ltP_iff {p q : Pt} : ltP p q = true ↔ p.1 < q.1 ∨ (p.1 = q.1 ∧ p.2 < q.2) := by simp [ltP]
theorem ordP : Ord ltP where
  irr a := by simp [ltP]
  tr a b d h1 h2 := by
    rw [ltP_iff] at *
    omega
  tot a b h1 h2 := by
    have n1 : ¬ (a.1 < b.1 ∨ (a.1 = b.1 ∧ a.2 < b.2)) := fun z => by rw [ltP_iff.mpr z] at h1; cases h1
    have n2 : ¬ (b.1 < a.1 ∨ (b.1 = a.1 ∧ b.2 < a.2)) := fun z => by rw [ltP_iff.mpr z] at h2; cases h2
    apply Prod.ext <;> omega
theorem ltS_iff {p q : Sd} : ltS p q = true ↔ ltP p.1 q.1 = true ∨ (p.1 = q.1 ∧ ltP p.2 q.2 = true) := by simp [ltS]
theorem ordS : Ord ltS where
  irr a := by simp [ltS, ordP.irr]
  tr a b d h1 h2 := by
    rw [ltS_iff] at *
    rcases h1 with h1 | ⟨e1, h1⟩
    · rcases h2 with h2 | ⟨e2, h2⟩
      · exact .inl (ordP.tr _ _ _ h1 h2)
      · exact .inl (e2 ▸ h1)
    · rcases h2 with h2 | ⟨e2, h2⟩
      · exact .inl (e1 ▸ h2)
      · exact .inr ⟨e1.trans e2, ordP.tr _ _ _ h1 h2⟩
  tot a b h1 h2 := by
    have n1 : ¬ (ltP a.1 b.1 = true ∨ (a.1 = b.1 ∧ ltP a.2 b.2 = true)) := fun z => by rw [ltS_iff.mpr z] at h1; cases h1
    have n2 : ¬ (ltP b.1 a.1 = true ∨ (b.1 = a.1 ∧ ltP b.2 a.2 = true)) := fun z => by rw [ltS_iff.mpr z] at h2; cases h2
    have e1 : a.1 = b.1 := ordP.tot _ _ (by cases z : ltP a.1 b.1; rfl; exact absurd (.inl z) n1) (by cases z : ltP b.1 a.1; rfl; exact absurd (.inl z) n2)
    have e2 : a.2 = b.2 := ordP.tot _ _ (by cases z : ltP a.2 b.2; rfl; exact absurd (.inr ⟨e1, z⟩) n1) (by cases z : ltP b.2 a.2; rfl; exact absurd (.inr ⟨e1.symm, z⟩) n2)
    exact Prod.ext e1 e2
/-- ascending -/
def Asc {α : Type} (lt : α → α → Bool) (l : List α) : Prop := l.Pairwise fun a b => lt b a = false
/-- strictly -/
def AscS {α : Type} (lt : α → α → Bool) (l : List α) : Prop := l.Pairwise fun a b => lt a b = true
theorem Asc.strict {α : Type} {lt : α → α → Bool} (o : Ord lt) {l : List α} (h : Asc lt l) (n : l.Nodup) : AscS lt l := by
  unfold AscS
  refine (List.Pairwise.and h n).imp fun {a b} ⟨h1, h2⟩ => ?_
  cases e : lt a b with
  | true => rfl
  | false => exact absurd (o.tot a b e h1) h2
theorem AscS.nodup {α : Type} {lt : α → α → Bool} (o : Ord lt) {l : List α} (h : AscS lt l) : l.Nodup := h.imp fun {a b} z e => by
  subst e
  rw [o.irr] at z
  cases z
theorem AscS.uniq {α : Type} {lt : α → α → Bool} (o : Ord lt) : ∀ {l m : List α}, AscS lt l → AscS lt m → (∀ x, x ∈ l ↔ x ∈ m) → l = m
  | [], [], _, _, _ => rfl
  | [], b :: m, _, _, h => absurd ((h b).mpr List.mem_cons_self) (by simp)
  | a :: l, [], _, _, h => absurd ((h a).mp List.mem_cons_self) (by simp)
  | a :: l, b :: m, hl, hm, h => by
    obtain ⟨a1, a2⟩ := List.pairwise_cons.mp hl
    obtain ⟨b1, b2⟩ := List.pairwise_cons.mp hm
    have e : a = b := by
      rcases List.mem_cons.mp ((h a).mp List.mem_cons_self) with z | z
      · exact z
      · rcases List.mem_cons.mp ((h b).mpr List.mem_cons_self) with y | y
        · exact y.symm
        · have := o.asym (b1 a z)
          rw [a1 b y] at this
          cases this
    subst e
    rw [AscS.uniq o a2 b2 fun x => ?_]
    constructor
    · intro hx
      rcases List.mem_cons.mp ((h x).mp (List.mem_cons_of_mem _ hx)) with z | z
      · subst z
        have := a1 _ hx
        rw [o.irr] at this
        cases this
      · exact z
    · intro hx
      rcases List.mem_cons.mp ((h x).mpr (List.mem_cons_of_mem _ hx)) with z | z
      · subst z
        have := b1 _ hx
        rw [o.irr] at this
        cases this
      · exact z
/-- sorted, by insertion -/
def ins {α : Type} (lt : α → α → Bool) (a : α) : List α → List α
  | [] => [a]
  | b :: l => if lt b a then b :: ins lt a l else a :: b :: l
def srt {α : Type} (lt : α → α → Bool) : List α → List α
  | [] => []
  | a :: l => ins lt a (srt lt l)
theorem ins_perm {α : Type} (lt : α → α → Bool) (a : α) : ∀ l : List α, (ins lt a l).Perm (a :: l)
  | [] => .refl _
  | b :: l => by
    unfold ins
    split
    · exact ((ins_perm lt a l).cons b).trans (.swap a b l)
    · exact .refl _
theorem srt_perm {α : Type} (lt : α → α → Bool) : ∀ l : List α, (srt lt l).Perm l
  | [] => .refl _
  | a :: l => (ins_perm lt a _).trans ((srt_perm lt l).cons a)
theorem ins_asc {α : Type} {lt : α → α → Bool} (o : Ord lt) (a : α) : ∀ {l : List α}, Asc lt l → Asc lt (ins lt a l)
  | [], _ => by simp [ins, Asc]
  | b :: l, h => by
    obtain ⟨h1, h2⟩ := List.pairwise_cons.mp h
    unfold ins
    split
    · rename_i e
      refine List.pairwise_cons.mpr ⟨fun x hx => ?_, ins_asc o a h2⟩
      rcases List.mem_cons.mp ((ins_perm lt a l).mem_iff.mp hx) with z | z
      · rw [z]; exact o.asym e
      · exact h1 x z
    · rename_i e
      refine List.pairwise_cons.mpr ⟨fun x hx => ?_, h⟩
      have e : lt b a = false := by simpa using e
      rcases List.mem_cons.mp hx with z | z
      · rw [z]; exact e
      · cases y : lt x a with
        | false => rfl
        | true =>
          have nb := h1 x z
          cases w : lt b x with
          | true => rw [o.tr b x a w y] at e; cases e
          | false =>
            have := o.tot b x w nb
            rw [this, y] at e
            cases e
theorem srt_asc {α : Type} {lt : α → α → Bool} (o : Ord lt) : ∀ l : List α, Asc lt (srt lt l)
  | [] => List.Pairwise.nil
  | a :: l => ins_asc o a (srt_asc o l)
theorem asc_uniq {α : Type} {lt : α → α → Bool} (o : Ord lt) : ∀ {l m : List α}, Asc lt l → Asc lt m → l.Perm m → l = m
  | [], m, _, _, h => (h.symm.eq_nil).symm
  | a :: l, [], _, _, h => h.eq_nil
  | a :: l, b :: m, hl, hm, h => by
    obtain ⟨a1, a2⟩ := List.pairwise_cons.mp hl
    obtain ⟨b1, b2⟩ := List.pairwise_cons.mp hm
    have e : a = b := by
      rcases List.mem_cons.mp (h.mem_iff.mp List.mem_cons_self) with z | z
      · exact z
      · rcases List.mem_cons.mp (h.mem_iff.mpr List.mem_cons_self) with y | y
        · exact y.symm
        · exact o.tot a b (b1 a z) (a1 b y)
    subst e
    rw [asc_uniq o a2 b2 (List.Perm.cons_inv h)]
/-! ## of trees -/
theorem encP_inj {p q : Pt} (h : encP p = encP q) : p = q := by
  simp only [encP, D.tup.injEq, List.cons.injEq, D.int.injEq, and_true] at h
  exact Prod.ext h.1 h.2
theorem encS_inj {p q : Sd} (h : encS p = encS q) : p = q := by
  simp only [encS, D.tup.injEq, List.cons.injEq, and_true] at h
  exact Prod.ext (encP_inj h.1) (encP_inj h.2)
theorem beqI (a b : Int) : (a == b) = decide (a = b) := by rw [Bool.eq_iff_iff]; simp
theorem eqv_P (p q : Pt) : D.eqv (encP p) (encP q) = decide (p = q) := by
  have e : D.eqv (encP p) (encP q) = (decide (p.1 = q.1) && decide (p.2 = q.2)) := by
    simp only [D.eqv, encP, D.data, D.datas, PyData.eqv, PyData.eqvAll, Bool.and_true]
    rw [beqI, beqI]
  rw [e, ← Bool.decide_and]
  exact decide_eq_decide.mpr ⟨fun h => Prod.ext h.1 h.2, fun h => by rw [h]; exact ⟨rfl, rfl⟩⟩
theorem eqv_S (p q : Sd) : D.eqv (encS p) (encS q) = decide (p = q) := by
  have e : D.eqv (encS p) (encS q) = (D.eqv (encP p.1) (encP q.1) && D.eqv (encP p.2) (encP q.2)) := by
    simp only [D.eqv, encS, D.data, D.datas, PyData.eqv, PyData.eqvAll, Bool.and_true]
  rw [e, eqv_P, eqv_P, ← Bool.decide_and]
  exact decide_eq_decide.mpr ⟨fun h => Prod.ext h.1 h.2, fun h => by rw [h]; exact ⟨rfl, rfl⟩⟩
theorem shp_P (n : Nat) (p : Pt) : D.shp (n + 1) (encP p) = true := by simp [encP, D.shp, D.shps, shp_int]
theorem shp_S (n : Nat) (p : Sd) : D.shp (n + 2) (encS p) = true := by simp [encS, D.shp, D.shps, shp_P]
theorem shps_P (n : Nat) (l : List Pt) : D.shps (n + 1) (l.map encP) = true := by
  rw [shps_all, List.all_map]
  exact List.all_eq_true.mpr fun p _ => shp_P n p
theorem shps_S (n : Nat) (l : List Sd) : D.shps (n + 2) (l.map encS) = true := by
  rw [shps_all, List.all_map]
  exact List.all_eq_true.mpr fun p _ => shp_S n p
theorem any_P (l : List Pt) (p : Pt) : ((l.map encP).any fun z => D.eqv z (encP p)) = decide (p ∈ l) := by
  rw [List.any_map]
  have e : ((fun z => D.eqv z (encP p)) ∘ encP) = fun q => decide (q = p) := funext fun q => eqv_P q p
  rw [e, Bool.eq_iff_iff, List.any_eq_true, decide_eq_true_eq]
  exact ⟨fun ⟨x, h1, h2⟩ => of_decide_eq_true h2 ▸ h1, fun h => ⟨p, h, by simp⟩⟩
theorem any_S (l : List Sd) (p : Sd) : ((l.map encS).any fun z => D.eqv z (encS p)) = decide (p ∈ l) := by
  rw [List.any_map]
  have e : ((fun z => D.eqv z (encS p)) ∘ encS) = fun q => decide (q = p) := funext fun q => eqv_S q p
  rw [e, Bool.eq_iff_iff, List.any_eq_true, decide_eq_true_eq]
  exact ⟨fun ⟨x, h1, h2⟩ => of_decide_eq_true h2 ▸ h1, fun h => ⟨p, h, by simp⟩⟩
theorem any_I (l : List Int) (p : Int) : ((l.map D.int).any fun z => D.eqv z (.int p)) = decide (p ∈ l) := by
  rw [List.any_map]
  have e : ((fun z => D.eqv z (.int p)) ∘ D.int) = fun q => decide (q = p) := funext fun q => by
    show D.eqv (.int q) (.int p) = _
    rw [eqv_int, beqI]
  rw [e, Bool.eq_iff_iff, List.any_eq_true, decide_eq_true_eq]
  exact ⟨fun ⟨x, h1, h2⟩ => of_decide_eq_true h2 ▸ h1, fun h => ⟨p, h, by simp⟩⟩
theorem idx_P {l : List Pt} {p : Pt} (h : p ∈ l) : idxD (encP p) (l.map encP) = some (l.idxOf p) := by
  induction l with
  | nil => cases h
  | cons q l ih =>
    rw [List.map_cons]
    unfold idxD
    rw [eqv_P]
    by_cases e : q = p
    · subst e
      simp
    · rw [if_neg (by simpa using e), ih ((List.mem_cons.mp h).resolve_left fun z => e z.symm), List.idxOf_cons]
      have : (q == p) = false := by simpa using e
      rw [this]
      rfl
theorem key_P (n : Nat) (p : Pt) : D.isKey (n + 1) (encP p) = true := by simp [encP, D.isKey, D.isKeys]
theorem tupK_P (p : Pt) : isTupK (encP p) = true := key_P 7 p
theorem tupK_S (p : Sd) : isTupK (encS p) = true := by
  show D.isKey 8 (.tup [encP p.1, encP p.2]) = true
  simp only [D.isKey, D.isKeys, key_P, Bool.and_self]
theorem all_P (l : List Pt) : (l.map encP).all isTupK = true := by
  rw [List.all_map]
  exact List.all_eq_true.mpr fun p _ => tupK_P p
theorem all_S (l : List Sd) : (l.map encS).all isTupK = true := by
  rw [List.all_map]
  exact List.all_eq_true.mpr fun p _ => tupK_S p
theorem alike_P (l : List Pt) : AlikeD (l.map encP) := by
  intro d hd d' hd'
  obtain ⟨x, hx, rfl⟩ := List.mem_map.mp hd
  obtain ⟨y, hy, rfl⟩ := List.mem_map.mp hd'
  obtain ⟨p, _, rfl⟩ := List.mem_map.mp hx
  obtain ⟨q, _, rfl⟩ := List.mem_map.mp hy
  simp [encP, D.data, D.datas, PySem.W.alike, PySem.W.alikeAll]
theorem alike_S (l : List Sd) : AlikeD (l.map encS) := by
  intro d hd d' hd'
  obtain ⟨x, hx, rfl⟩ := List.mem_map.mp hd
  obtain ⟨y, hy, rfl⟩ := List.mem_map.mp hd'
  obtain ⟨p, _, rfl⟩ := List.mem_map.mp hx
  obtain ⟨q, _, rfl⟩ := List.mem_map.mp hy
  simp [encS, encP, D.data, D.datas, PySem.W.alike, PySem.W.alikeAll]
theorem toks_P (p : Pt) : PySem.W.keyToks (encP p).data = [.inl 1, .inl p.1, .inl 1, .inl p.2, .inl 0] := by
  simp [encP, D.data, D.datas, PySem.W.keyToks, PySem.W.keyToksAll]
theorem lex_inl (a b : Int) (r t : List (Int ⊕ List Nat)) : PyProof.Rows.lexLt itemOrd (.inl a :: r) (.inl b :: t) = (decide (a < b) || (decide (a = b) && PyProof.Rows.lexLt itemOrd r t)) := by
  rw [PyProof.Rows.lex_cons]
  show (decide (a < b) || (!decide (b < a) && _)) = _
  by_cases h : a < b
  · simp [h]
  · by_cases e : a = b
    · subst e; simp
    · have : b < a := by omega
      simp [h, e, this]
theorem lex_nil : PyProof.Rows.lexLt itemOrd [] [] = false := rfl
theorem lt_P (p q : Pt) : PySem.W.dataLt (encP p).data (encP q).data = ltP p q := by
  unfold PySem.W.dataLt
  rw [toks_P, toks_P]
  repeat rw [lex_inl]
  rw [lex_nil]
  simp only [Int.lt_irrefl, decide_false, decide_true, Bool.false_or, Bool.true_and, lex_nil, Bool.and_false, Bool.or_false]
  rfl
theorem toks_S (p : Sd) : PySem.W.keyToks (encS p).data = .inl 1 :: (PySem.W.keyToks (encP p.1).data ++ .inl 1 :: (PySem.W.keyToks (encP p.2).data ++ [.inl 0])) := by
  simp [encS, D.data, D.datas, PySem.W.keyToks, PySem.W.keyToksAll]
theorem lt_S (p q : Sd) : PySem.W.dataLt (encS p).data (encS q).data = ltS p q := by
  unfold PySem.W.dataLt
  rw [toks_S, toks_S, toks_P, toks_P, toks_P, toks_P]
  simp only [List.cons_append, List.nil_append]
  repeat rw [lex_inl]
  rw [lex_nil]
  simp only [Int.lt_irrefl, decide_false, decide_true, Bool.false_or, Bool.true_and, lex_nil, Bool.and_false, Bool.or_false]
  obtain ⟨⟨a, b⟩, ⟨d, e⟩⟩ := p
  obtain ⟨⟨a', b'⟩, ⟨d', e'⟩⟩ := q
  simp only [ltS, ltP, Prod.mk.injEq]
  by_cases h1 : a < a'
  · simp [h1]
  · by_cases h2 : a = a'
    · subst h2
      by_cases h3 : b < b'
      · simp [h3]
      · by_cases h4 : b = b'
        · subst h4; simp
        · simp [h3, h4]
    · simp [h1, h2]
theorem srtD_P (l : List Pt) : SrtD (l.map encP) ↔ Asc ltP l := by
  unfold SrtD Srt Asc
  rw [List.map_map, List.pairwise_map]
  have e : ∀ a b : Pt, (upw (encP a).data (encP b).data = true) ↔ (ltP b a = false) := fun a b => by
    show (!PySem.W.dataLt (encP b).data (encP a).data) = true ↔ _
    rw [lt_P]
    cases ltP b a <;> simp
  exact ⟨fun h => h.imp fun {a b} z => (e a b).mp z, fun h => h.imp fun {a b} z => (e a b).mpr z⟩
theorem srtD_S (l : List Sd) : SrtD (l.map encS) ↔ Asc ltS l := by
  unfold SrtD Srt Asc
  rw [List.map_map, List.pairwise_map]
  have e : ∀ a b : Sd, (upw (encS a).data (encS b).data = true) ↔ (ltS b a = false) := fun a b => by
    show (!PySem.W.dataLt (encS b).data (encS a).data) = true ↔ _
    rw [lt_S]
    cases ltS b a <;> simp
  exact ⟨fun h => h.imp fun {a b} z => (e a b).mp z, fun h => h.imp fun {a b} z => (e a b).mpr z⟩
/-- a list with the members of an encoded one is encoded -/
theorem enc_list {α : Type} {enc : α → D} {l : List α} : ∀ {M : List D}, (∀ x ∈ M, x ∈ l.map enc) → ∃ m : List α, M = m.map enc ∧ ∀ a ∈ m, a ∈ l
  | [], _ => ⟨[], rfl, fun a h => by cases h⟩
  | x :: M, h => by
    obtain ⟨a, ha, rfl⟩ := List.mem_map.mp (h x List.mem_cons_self)
    obtain ⟨m, rfl, hm⟩ := enc_list fun y hy => h y (List.mem_cons_of_mem _ hy)
    exact ⟨a :: m, rfl, fun b hb => (List.mem_cons.mp hb).elim (fun z => z ▸ ha) (hm b)⟩
theorem mem_enc {α : Type} {enc : α → D} (inj : ∀ a b, enc a = enc b → a = b) {l : List α} {a : α} : enc a ∈ l.map enc ↔ a ∈ l := ⟨fun h => by
  obtain ⟨b, hb, e⟩ := List.mem_map.mp h
  exact inj b a e ▸ hb, fun h => List.mem_map.mpr ⟨a, h, rfl⟩⟩
/-- what sorted(set(..)) gives -/
def setSrt {α : Type} [DecidableEq α] (lt : α → α → Bool) (l : List α) : List α := srt lt l.eraseDups
theorem sorted_set {α : Type} {enc : α → D} {lt : α → α → Bool} (o : Ord lt) (inj : ∀ a b, enc a = enc b → a = b) (srtD : ∀ l : List α, SrtD (l.map enc) ↔ Asc lt l) {l m : List α} (hm : AscS lt m) (mem : ∀ a, a ∈ m ↔ a ∈ l) {M : List D} (nd : M.Nodup) (h : ∀ x, x ∈ M ↔ x ∈ l.map enc) (s : SrtD M) : M = m.map enc := by
  obtain ⟨m2, rfl, _⟩ := enc_list fun x hx => (h x).mp hx
  have nd2 : m2.Nodup := by
    have := List.pairwise_map.mp nd
    exact this.imp fun {a b} z e => z (by rw [e])
  have a2 := ((srtD m2).mp s).strict o nd2
  rw [a2.uniq o hm fun a => ?_]
  rw [mem a, ← mem_enc inj, h, mem_enc inj]
theorem sorted_list {α : Type} {enc : α → D} {lt : α → α → Bool} (o : Ord lt) (inj : ∀ a b, enc a = enc b → a = b) (srtD : ∀ l : List α, SrtD (l.map enc) ↔ Asc lt l) {l : List α} {M : List D} (pm : M.Perm (l.map enc)) (s : SrtD M) : M = (srt lt l).map enc := by
  obtain ⟨m, em, rfl⟩ := Nv.perm_lift enc pm l rfl
  have a := (srtD m).mp s
  rw [asc_uniq o a (srt_asc o l) (em.trans (srt_perm lt l).symm)]
theorem sub_len {α : Type} [DecidableEq α] : ∀ {m l : List α}, m.Nodup → (∀ a ∈ m, a ∈ l) → m.length ≤ l.length ∧ (l.length ≤ m.length → m.Perm l)
  | [], l, _, _ => ⟨Nat.zero_le _, fun h => by
    cases l with
    | nil => exact .refl _
    | cons b l => simp at h⟩
  | a :: m, l, n, s => by
    obtain ⟨n1, n2⟩ := List.nodup_cons.mp n
    have al := s a List.mem_cons_self
    have len := List.length_erase_of_mem al
    have pos := List.length_pos_of_mem al
    obtain ⟨h1, h2⟩ := sub_len (l := l.erase a) n2 fun b hb => (List.mem_erase_of_ne fun z => n1 (by rw [← z]; exact hb)).mpr (s b (List.mem_cons_of_mem _ hb))
    refine ⟨by rw [List.length_cons]; omega, fun h => ?_⟩
    rw [List.length_cons] at h
    exact ((h2 (by omega)).cons a).trans (List.perm_cons_erase al).symm
theorem len_set {α : Type} [DecidableEq α] {enc : α → D} (inj : ∀ a b, enc a = enc b → a = b) {l : List α} {M : List D} (nd : M.Nodup) (h : ∀ x, x ∈ M ↔ x ∈ l.map enc) : M.length ≤ l.length ∧ (M.length < l.length ↔ ¬ l.Nodup) := by
  obtain ⟨m2, rfl, _⟩ := enc_list fun x hx => (h x).mp hx
  have nd2 : m2.Nodup := (List.pairwise_map.mp nd).imp fun {a b} z e => z (by rw [e])
  have mem : ∀ a, a ∈ m2 ↔ a ∈ l := fun a => by rw [← mem_enc inj, h, mem_enc inj]
  obtain ⟨s1, s2⟩ := sub_len nd2 fun a ha => (mem a).mp ha
  rw [List.length_map]
  refine ⟨s1, fun lt nl => ?_, fun nn => ?_⟩
  · have := (sub_len nl fun a ha => (mem a).mpr ha).1
    omega
  · rcases Nat.lt_or_ge m2.length l.length with z | z
    · exact z
    · exact absurd ((s2 z).nodup_iff.mp nd2) nn
end VL

set_option linter.all false
set_option maxRecDepth 100000
set_option maxHeartbeats 4000000
namespace VL
open PySem PySem.Spec PyProof.Rows L2 Nv
/-! # rooms -/
def step (s : Int) : Pt := if s = 0 then (1, 0) else if s = 1 then (0, 1) else if s = 2 then (-1, 0) else (0, -1)
def nbr (p : Pt) (s : Int) : Pt := (p.1 + (step s).1, p.2 + (step s).2)
def mkS (p q : Pt) : Sd := if ltP q p then (q, p) else (p, q)
/-- the number of the square beyond an open side -/
def bey (sq : List Pt) (sh : List Sd) (p : Pt) (s : Int) : Option Nat := if nbr p s ∈ sq ∧ mkS p (nbr p s) ∉ sh then some (sq.idxOf (nbr p s)) else none
def optD : Option Nat → D
  | none => .non
  | some n => .int n
abbrev dSq (sq : List Pt) : D := .tup (sq.map encP)
abbrev dSh (sh : List Sd) : D := .tup (sh.map encS)
def dSTEPS : D := .tup [.tup [.int 1, .int 0], .tup [.int 0, .int 1], .tup [.int (-1), .int 0], .tup [.int 0, .int (-1)]]
theorem rowD_P (p : Pt) : rowD (encP p) = some [.int p.1, .int p.2] := rfl
theorem rowD_S (p : Sd) : rowD (encS p) = some [encP p.1, encP p.2] := rfl
theorem rowD_Sq (l : List Pt) : rowD (dSq l) = some (l.map encP) := rfl
theorem rowD_Sh (l : List Sd) : rowD (dSh l) = some (l.map encS) := rfl
theorem tup_P (a b : Int) : D.tup [.int a, .int b] = encP (a, b) := rfl
theorem tup_S (a b : Pt) : D.tup [encP a, encP b] = encS (a, b) := rfl
theorem tup_S' (s : Sd) : D.tup [encP s.1, encP s.2] = encS s := rfl
theorem lit_sz : (0 ≤ sizeLine) = True ∧ (1 ≤ sizeLine) = True ∧ (2 ≤ sizeLine) = True ∧ (3 ≤ sizeLine) = True ∧ (4 ≤ sizeLine) = True ∧ (5 ≤ sizeLine) = True ∧ (6 ≤ sizeLine) = True ∧ (7 ≤ sizeLine) = True ∧ (8 ≤ sizeLine) = True ∧ (0 < sizeLine) = True ∧ (4 < sizeLine) = True := by
  have e : sizeLine = 16777216 := sizeLine_eq
  rw [e]
  simp
theorem shpP60 (p : Pt) : D.shp 60 (encP p) = true := shp_P 59 p
theorem shpS60 (p : Sd) : D.shp 60 (encS p) = true := shp_S 58 p
theorem shpsP59 (l : List Pt) : D.shps 59 (l.map encP) = true := shps_P 58 l
theorem shpsS59 (l : List Sd) : D.shps 59 (l.map encS) = true := shps_S 57 l
theorem srt_two (p q : Pt) : srt ltP [p, q] = [(mkS p q).1, (mkS p q).2] := by
  simp only [srt, ins, mkS]
  split <;> rfl
def C_nb : Con := fun _ t ds Pq _ => ∃ sq sh p s, ds = [dSq sq, dSh sh, encP p, .int s] ∧ 0 ≤ s ∧ s < 4 ∧ Pq t (optD (bey sq sh p s))
/-- for each square the numbers beyond its sides -/
def beys (sq : List Pt) (sh : List Sd) : List (List (Option Nat)) := sq.map fun p => [bey sq sh p 0, bey sq sh p 1, bey sq sh p 2, bey sq sh p 3]
abbrev dBey (b : List (List (Option Nat))) : D := .tup (b.map fun r => .tup (r.map optD))
def C_ab : Con := fun _ t ds Pq _ => ∃ sq sh, ds = [dSq sq, dSh sh] ∧ sq.length ≤ 1000 ∧ Pq t (dBey (beys sq sh))
theorem atI2 (x y z : D) (r : List D) : atI (x :: y :: z :: r) 2 = some z := atI_nat (j := 2) rfl
theorem atI3 (x y z a : D) (r : List D) : atI (x :: y :: z :: a :: r) 3 = some a := atI_nat (j := 3) rfl
theorem alike_two (p q : Pt) : AlikeD [encP p, encP q] := alike_P [p, q]
theorem tupK_two (p q : Pt) : ([encP p, encP q].all isTupK) = true := all_P [p, q]
theorem sort_two {p q : Pt} {M : List D} (pm : M.Perm [encP p, encP q]) (s : SrtD M) : M = [encP (mkS p q).1, encP (mkS p q).2] := by
  have := sorted_list ordP (fun a b => encP_inj) srtD_P (l := [p, q]) pm s
  rw [this, srt_two]
  rfl
/-- the end of _number_beyond's reading -/
theorem nb_fin {sq : List Pt} {sh : List Sd} {p r : Pt} {s : Int} {t : Nat} {Pq : Nat → D → Prop} (q : Pq t (optD (bey sq sh p s))) (e : r = nbr p s) : (¬ r ∈ sq → Pq t D.non) ∧ (r ∈ sq → ∀ M : List D, M.Perm [encP p, encP r] → SrtD M → D.shp 60 (D.tup M) = true ∧
    (((sh.map encS).any fun z => z.eqv (D.tup M)) = true → Pq t D.non) ∧ (((sh.map encS).any fun z => z.eqv (D.tup M)) = false → ∃ j, idxD (encP r) (sq.map encP) = some j ∧ Pq t (D.int ↑j))) := by
  subst e
  refine ⟨fun n => ?_, fun m M pm sr => ?_⟩
  · rw [bey, if_neg (fun y => n y.1)] at q
    exact q
  · have e := sort_two pm sr
    subst e
    rw [tup_S', any_S]
    refine ⟨shpS60 _, fun z => ?_, fun z => ⟨_, idx_P m, ?_⟩⟩
    · rw [bey, if_neg (fun y => y.2 (of_decide_eq_true z))] at q
      exact q
    · rw [bey, if_pos ⟨m, of_decide_eq_false z⟩] at q
      exact q
end VL

set_option linter.all false
set_option maxRecDepth 100000
set_option maxHeartbeats 4000000
namespace VL
open PySem PySem.Spec PyProof.Rows L2 Nv
/-! # what hangs together with the first -/
inductive Rch {α : Type} (nb : α → List α) (a : α) : α → Prop
  | here : Rch nb a a
  | next {x y : α} : Rch nb a x → y ∈ nb x → Rch nb a y
structure Bfs (nb : Nat → List Nat) (n : Nat) (found : List Nat) (at_ : Nat) : Prop where
  nd : found.Nodup
  lt : ∀ x ∈ found, x < n
  r : ∀ x ∈ found, Rch nb 0 x
  z : 0 ∈ found
  le : at_ ≤ found.length
  cl : ∀ i x y, i < at_ → found[i]? = some x → y ∈ nb x → y ∈ found
theorem Bfs.start {nb : Nat → List Nat} {n : Nat} (h : 0 < n) : Bfs nb n [0] 0 :=
  ⟨by simp, fun x hx => by rw [List.mem_singleton.mp hx]; exact h, fun x hx => by rw [List.mem_singleton.mp hx]; exact .here, by simp, Nat.zero_le _, fun i x y lt => absurd lt (Nat.not_lt_zero _)⟩
theorem Bfs.few {nb : Nat → List Nat} {n : Nat} {found : List Nat} {at_ : Nat} (b : Bfs nb n found at_) : found.length ≤ n := by
  have := (sub_len (l := List.range n) b.nd fun a ha => List.mem_range.mpr (b.lt a ha)).1
  rwa [List.length_range] at this
theorem Bfs.step {nb : Nat → List Nat} {n : Nat} {found : List Nat} {at_ x : Nat} (b : Bfs nb n found at_) (e : found[at_]? = some x) (nn : (nb x).Nodup) (low : ∀ y ∈ nb x, y < n) : Bfs nb n (found ++ (nb x).filter fun y => decide (y ∉ found)) (at_ + 1) := by
  have hx := List.mem_of_getElem? e
  have la := (List.getElem?_eq_some_iff.mp e).1
  refine ⟨List.nodup_append.mpr ⟨b.nd, nn.filter _, fun a ha c hc z => ?_⟩, fun y hy => ?_, fun y hy => ?_, List.mem_append_left _ b.z, by rw [List.length_append]; omega, fun i w y lt ei hy => ?_⟩
  · subst z
    exact of_decide_eq_true (List.mem_filter.mp hc).2 ha
  · rcases List.mem_append.mp hy with h | h
    · exact b.lt y h
    · exact low y (List.mem_filter.mp h).1
  · rcases List.mem_append.mp hy with h | h
    · exact b.r y h
    · exact .next (b.r x hx) (List.mem_filter.mp h).1
  · rw [List.getElem?_append_left (by omega)] at ei
    by_cases z : i = at_
    · subst z
      rw [e] at ei
      cases ei
      by_cases m : y ∈ found
      · exact List.mem_append_left _ m
      · exact List.mem_append_right _ (List.mem_filter.mpr ⟨hy, decide_eq_true m⟩)
    · exact List.mem_append_left _ (b.cl i w y (by omega) ei hy)
theorem Bfs.fin {nb : Nat → List Nat} {n : Nat} {found : List Nat} {at_ : Nat} (b : Bfs nb n found at_) (e : found.length ≤ at_) : found.length = n ↔ ∀ y, y < n → Rch nb 0 y := by
  have all : ∀ y, Rch nb 0 y → y ∈ found := by
    intro y h
    induction h with
    | here => exact b.z
    | next h hy ih =>
      obtain ⟨i, li, ei⟩ := List.getElem_of_mem ih
      exact b.cl i _ _ (by omega) (by rw [List.getElem?_eq_getElem li, ei]) hy
  constructor
  · intro h y hy
    have pm := (sub_len (l := List.range n) b.nd fun a ha => List.mem_range.mpr (b.lt a ha)).2 (by rw [List.length_range]; omega)
    exact b.r y (pm.mem_iff.mpr (List.mem_range.mpr hy))
  · intro h
    have := (sub_len (l := found) (List.nodup_range (n := n)) fun a ha => all a (h a (List.mem_range.mp ha))).1
    rw [List.length_range] at this
    have := b.few
    omega
/-! ## of squares -/
def nums (r : List (Option Nat)) : List Nat := r.filterMap id
/-- the squares beside a square, by numbers -/
def nbN (sq : List Pt) (sh : List Sd) (n : Nat) : List Nat := match sq[n]? with
  | some p => nums [bey sq sh p 0, bey sq sh p 1, bey sq sh p 2, bey sq sh p 3]
  | none => []
def Hang (sq : List Pt) (sh : List Sd) : Prop := ∀ n, n < sq.length → Rch (nbN sq sh) 0 n
theorem bey_lt {sq : List Pt} {sh : List Sd} {p : Pt} {s : Int} {n : Nat} (h : bey sq sh p s = some n) : n < sq.length ∧ sq[n]? = some (nbr p s) ∧ mkS p (nbr p s) ∉ sh := by
  unfold bey at h
  split at h
  · rename_i m
    cases h
    have l := List.idxOf_lt_length_of_mem m.1
    exact ⟨l, by rw [List.getElem?_eq_getElem l, List.getElem_idxOf], m.2⟩
  · cases h
theorem nbr_inj {p : Pt} {s u : Int} (hs : s = 0 ∨ s = 1 ∨ s = 2 ∨ s = 3) (hu : u = 0 ∨ u = 1 ∨ u = 2 ∨ u = 3) (h : nbr p s = nbr p u) : s = u := by
  obtain ⟨a, b⟩ := p
  rcases hs with rfl | rfl | rfl | rfl <;> rcases hu with rfl | rfl | rfl | rfl <;> simp [nbr, step] at h <;> first | rfl | omega
theorem nbN_low {sq : List Pt} {sh : List Sd} {n : Nat} : ∀ y ∈ nbN sq sh n, y < sq.length := by
  intro y hy
  unfold nbN at hy
  split at hy
  · simp only [nums, List.mem_filterMap, id_eq, List.mem_cons, List.not_mem_nil, or_false, exists_eq_right] at hy
    rcases hy with h | h | h | h <;> exact (bey_lt h.symm).1
  · cases hy
theorem nbN_nodup {sq : List Pt} {sh : List Sd} {n : Nat} : (nbN sq sh n).Nodup := by
  unfold nbN
  split
  · rename_i p e
    have ne : ∀ s u : Int, (s = 0 ∨ s = 1 ∨ s = 2 ∨ s = 3) → (u = 0 ∨ u = 1 ∨ u = 2 ∨ u = 3) → s ≠ u → ∀ a, bey sq sh p s = some a → bey sq sh p u = some a → False := fun s u hs hu n a h1 h2 => by
      have e1 := (bey_lt h1).2.1
      have e2 := (bey_lt h2).2.1
      rw [e1] at e2
      exact n (nbr_inj hs hu (Option.some.inj e2))
    have pw : ([bey sq sh p 0, bey sq sh p 1, bey sq sh p 2, bey sq sh p 3] : List (Option Nat)).Pairwise fun x y => ∀ a, x = some a → y = some a → False := by
      simp only [List.pairwise_cons, List.mem_cons, List.not_mem_nil, or_false, false_implies, implies_true, List.Pairwise.nil, and_true]
      refine ⟨fun x hx => ?_, fun x hx => ?_, fun x hx => ?_⟩
      · rcases hx with rfl | rfl | rfl
        · exact ne 0 1 (by decide) (by decide) (by decide)
        · exact ne 0 2 (by decide) (by decide) (by decide)
        · exact ne 0 3 (by decide) (by decide) (by decide)
      · rcases hx with rfl | rfl
        · exact ne 1 2 (by decide) (by decide) (by decide)
        · exact ne 1 3 (by decide) (by decide) (by decide)
      · subst hx
        exact ne 2 3 (by decide) (by decide) (by decide)
    exact List.Pairwise.filterMap id (fun a a' h b hb b' hb' e => h b hb (by rw [e]; exact hb')) pw
  · exact List.nodup_nil
def natD (n : Nat) : D := .int (n : Int)
theorem any_N (l : List Nat) (n : Nat) : ((l.map natD).any fun z => D.eqv z (natD n)) = decide (n ∈ l) := by
  rw [List.any_map]
  have e : ((fun z => D.eqv z (natD n)) ∘ natD) = fun q => decide (q = n) := funext fun q => by
    show D.eqv (.int q) (.int n) = _
    rw [eqv_int, beqI]
    exact decide_eq_decide.mpr ⟨fun h => by omega, fun h => by omega⟩
  rw [e, Bool.eq_iff_iff, List.any_eq_true, decide_eq_true_eq]
  exact ⟨fun ⟨x, h1, h2⟩ => of_decide_eq_true h2 ▸ h1, fun h => ⟨n, h, by simp⟩⟩
theorem shp_N (n : Nat) (k : Nat) : D.shp k (natD n) = true := shp_int
theorem shps_N (l : List Nat) (k : Nat) : D.shps k (l.map natD) = true := by
  rw [shps_all, List.all_map]
  exact List.all_eq_true.mpr fun p _ => shp_N p k
/-- a row of numbers and None -/
def freshO (found : List Nat) : Option Nat → Option D
  | none => none
  | some n => if n ∈ found then none else some (natD n)
theorem row_fm (r : List (Option Nat)) (found : List Nat) : r.filterMap (freshO found) = ((nums r).filter fun y => decide (y ∉ found)).map natD := by
  induction r with
  | nil => rfl
  | cons o r ih =>
    cases o with
    | none =>
      rw [List.filterMap_cons_none (by rfl), ih]
      rfl
    | some n =>
      by_cases h : n ∈ found
      · rw [List.filterMap_cons_none (by simp [freshO, h]), ih]
        have : (nums (some n :: r)).filter (fun y => decide (y ∉ found)) = (nums r).filter fun y => decide (y ∉ found) := by
          show (n :: nums r).filter _ = _
          rw [List.filter_cons_of_neg (by simpa using h)]
        rw [this]
      · rw [List.filterMap_cons_some (b := natD n) (by simp [freshO, h]), ih]
        have : (nums (some n :: r)).filter (fun y => decide (y ∉ found)) = n :: (nums r).filter fun y => decide (y ∉ found) := by
          show (n :: nums r).filter _ = _
          rw [List.filter_cons_of_pos (by simpa using h)]
        rw [this, List.map_cons]
/-- whether all hang together -/
def C_ht : Con := fun _ t ds Pq _ => ∃ sq sh, ds = [dSq sq, dSh sh] ∧ 0 < sq.length ∧ sq.length ≤ 1000 ∧ ∀ b : Bool, (b = true ↔ Hang sq sh) → Pq t (.bl b)
theorem beys_at {sq : List Pt} {sh : List Sd} {n : Nat} (h : n < sq.length) : ∃ r, (beys sq sh)[n]? = some r ∧ nums r = nbN sq sh n ∧ r.length = 4 := by
  refine ⟨_, by rw [beys, List.getElem?_map, List.getElem?_eq_getElem h]; rfl, ?_, rfl⟩
  unfold nbN
  rw [List.getElem?_eq_getElem h]
end VL

set_option linter.all false
set_option maxRecDepth 100000
set_option maxHeartbeats 4000000
namespace VL
open PySem PySem.Spec PyProof.Rows L2 Nv
/-! # squares and sides as they are told -/
def ptD (d : D) : Option Pt := match rowD d with
  | some [.int i, .int j] => some (i, j)
  | _ => none
theorem ptD_row {d : D} {p : Pt} (h : ptD d = some p) : rowD d = some [.int p.1, .int p.2] := by
  unfold ptD at h
  split at h
  · rename_i i j e; cases h; exact e
  · cases h
theorem isPt_pt (d : D) : isPt d = (ptD d).isSome := by
  unfold isPt ptD
  generalize rowD d = o
  match o with
  | none => rfl
  | some [] => rfl
  | some [x] => cases x <;> rfl
  | some (x :: y :: z :: r) => cases x <;> cases y <;> rfl
  | some [x, y] => cases x <;> cases y <;> rfl
theorem row_cases {d : D} {ds : List D} (h : rowD d = some ds) : d = .lst ds ∨ d = .tup ds := by
  cases d <;> first | cases h | skip
  · exact .inl rfl
  · exact .inr rfl
def inB (p : Pt) : Bool := (decide (-99 ≤ p.1) && decide (p.1 ≤ 99)) && (decide (-99 ≤ p.2) && decide (p.2 ≤ 99))
def sqD (d : D) : Option Pt := match ptD d with
  | some p => if inB p then some p else none
  | none => none
theorem sqD_pt {d : D} {p : Pt} (h : sqD d = some p) : ptD d = some p ∧ inB p = true := by
  unfold sqD at h
  split at h
  · split at h
    · cases h; exact ⟨‹_›, ‹_›⟩
    · cases h
  · cases h
theorem isSq_sq (d : D) : isSq d = (sqD d).isSome := by
  unfold isSq sqD ptD
  generalize rowD d = o
  match o with
  | none => rfl
  | some [] => rfl
  | some [x] => cases x <;> rfl
  | some (x :: y :: z :: r) => cases x <;> cases y <;> rfl
  | some [.int i, .int j] =>
    show inB (i, j) = (if inB (i, j) then some (i, j) else none).isSome
    cases inB (i, j) <;> rfl
  | some [.int i, .non] | some [.int i, .bl _] | some [.int i, .str _] | some [.int i, .lst _] | some [.int i, .tup _] | some [.int i, .ins _ _] | some [.int i, .adr _] | some [.int i, .ty _] => exact Bool.and_false _
  | some [.non, y] | some [.bl _, y] | some [.str _, y] | some [.lst _, y] | some [.tup _, y] | some [.ins _ _, y] | some [.adr _, y] | some [.ty _, y] => rfl
/-- a side that is told -/
def sideTold (sq : List Pt) (v : D) : Option Sd := match rowD v with
  | some [a, b] => match ptD a, ptD b with
    | some p, some q => if (mkS p q).1 ∈ sq ∧ (mkS p q).2 ∈ sq ∧ ((mkS p q).2.1 - (mkS p q).1.1).natAbs + ((mkS p q).2.2 - (mkS p q).1.2).natAbs = 1 then some (mkS p q) else none
    | _, _ => none
  | _ => none
def optS : Option Sd → D
  | none => .non
  | some s => encS s
def C_st : Con := fun _ t ds Pq _ => ∃ v sq, ds = [v, dSq sq] ∧ okD v ∧ Pq t (optS (sideTold sq v))
def exP (C : Addr) (s : Str) : Exn := ⟨C, [("part", .str s)]⟩
/-- the rows of a list, all of them squares -/
def allO {α : Type} (f : D → Option α) : List D → Option (List α)
  | [] => some []
  | d :: ds => match f d, allO f ds with
    | some a, some as => some (a :: as)
    | _, _ => none
theorem allO_some {α : Type} {f : D → Option α} : ∀ {ds : List D} {as : List α}, allO f ds = some as → ds.map f = as.map some
  | [], as, h => by cases h; rfl
  | d :: ds, as, h => by
    simp only [allO] at h
    split at h
    · rename_i a bs e1 e2
      cases h
      rw [List.map_cons, List.map_cons, e1, allO_some e2]
    · cases h
theorem allO_isSome {α : Type} {f : D → Option α} : ∀ ds : List D, (allO f ds).isSome = ds.all fun d => (f d).isSome
  | [] => rfl
  | d :: ds => by
    have ih := allO_isSome (f := f) ds
    simp only [allO, List.all_cons]
    rw [← ih]
    cases f d <;> cases allO f ds <;> rfl
def sqsTold (CB : Addr) (v : D) : Except Exn D := match rowD v with
  | some ds => match allO sqD ds with
    | some ps => if 1 ≤ ps.length ∧ ps.length ≤ 8 ∧ ps.Nodup then .ok (dSq (srt ltP ps)) else .error (exP CB "squares")
    | none => .error (exP CB "squares")
  | none => .error (exP CB "squares")
def C_sqt (CB : Addr) : Con := fun _ t ds Pq pe => ∃ v, ds = [v] ∧ okD v ∧ endE Pq pe t (sqsTold CB v)
def shTold (CB : Addr) (sq : List Pt) (v : D) : Except Exn D := match rowD v with
  | some ds => match allO (sideTold sq) ds with
    | some ss => if ss.Nodup then .ok (dSh (srt ltS ss)) else .error (exP CB "shut")
    | none => .error (exP CB "shut")
  | none => .error (exP CB "shut")
def C_sht (CB : Addr) : Con := fun _ t ds Pq pe => ∃ v sq, ds = [v, dSq sq] ∧ okD v ∧ (∀ es, rowD v = some es → es.length < 64) ∧ endE Pq pe t (shTold CB sq v)
/-- the instance of a class, by fields -/
def isRoom (CR : Addr) : D → Bool
  | .ins C _ => C == CR
  | _ => false
def C_nr (CR CB : Addr) : Con := fun _ t ds Pq pe => ∃ d s, ds = [d, .str s] ∧ (d.ok = true ∨ isRoom CR d = true) ∧ (isRoom CR d = true → Pq t .non) ∧ (isRoom CR d = false → pe t (exP CB s))
theorem sqD_tup {d : D} {p : Pt} (h : ptD d = some p) : d = .lst [.int p.1, .int p.2] ∨ d = .tup [.int p.1, .int p.2] := row_cases (ptD_row h)
theorem st_fin {sq : List Pt} {s u : Sd} {t : Nat} {Pq : Nat → D → Prop} (e : u = s) (q : Pq t (optS (if s.1 ∈ sq ∧ s.2 ∈ sq ∧ (s.2.1 - s.1.1).natAbs + (s.2.2 - s.1.2).natAbs = 1 then some s else none))) :
    (¬ u.1 ∈ sq → Pq t D.non) ∧ (u.1 ∈ sq → (¬ u.2 ∈ sq → Pq t D.non) ∧ (u.2 ∈ sq → ((((u.2.1 - u.1.1).natAbs : Int) + ((u.2.2 - u.1.2).natAbs : Int) == 1) = false → Pq t D.non) ∧ ((((u.2.1 - u.1.1).natAbs : Int) + ((u.2.2 - u.1.2).natAbs : Int) == 1) = true → Pq t (encS (u.1, u.2))))) := by
  subst e
  refine ⟨fun n => ?_, fun m => ⟨fun n => ?_, fun m2 => ⟨fun n => ?_, fun m3 => ?_⟩⟩⟩
  · rw [if_neg (fun y => n y.1)] at q; exact q
  · rw [if_neg (fun y => n y.2.1)] at q; exact q
  · rw [if_neg (fun y => by rw [beqI, decide_eq_false_iff_not] at n; omega)] at q; exact q
  · rw [if_pos ⟨m, m2, by rw [beqI, decide_eq_true_eq] at m3; omega⟩] at q; exact q
/-- an item of rows, as a point -/
theorem len_beq_far {α : Type} {x y z : α} {r : List α} : ((((x :: y :: z :: r).length : Nat) : Int) == 2) = true → False := by
  rw [beqI, decide_eq_true_eq, List.length_cons, List.length_cons, List.length_cons]
  omega
theorem lcG_map0 {T : Tg} {ue : UE} {δw : List Sl} {t : Nat} {k : Nat → List D → Prop} (f : D → D) {ds acc : List D} (h : ∀ d ∈ ds, ∀ (Kk : Nat → D → Bool → Prop), Kk t (f d) true → uT T d δw fun δ2 => ue t δ2 Kk) (q : k t (acc ++ ds.map f)) : uLcG T uYes ue δw ds acc t k := by
  have := lcG_map (T := T) (ue := ue) (δw := δw) (t := t) (k := k) (enc := id) f (l := ds) (acc := acc) h q
  rwa [List.map_id] at this
theorem allO_get {α : Type} {f : D → Option α} {ds : List D} {as : List α} (h : allO f ds = some as) {d : D} (m : d ∈ ds) : ∃ a, f d = some a := by
  have := allO_isSome (f := f) ds
  rw [h] at this
  have := List.all_eq_true.mp this.symm d m
  exact Option.isSome_iff_exists.mp this
theorem allO_map {α : Type} {f : D → Option α} {enc : α → D} {g : D → D} (hg : ∀ d a, f d = some a → g d = enc a) : ∀ {ds : List D} {as : List α}, allO f ds = some as → ds.map g = as.map enc
  | [], as, h => by cases h; rfl
  | d :: ds, as, h => by
    simp only [allO] at h
    split at h
    · rename_i a bs e1 e2
      cases h
      rw [List.map_cons, List.map_cons, hg d a e1, allO_map hg e2]
    · cases h
theorem allO_len {α : Type} {f : D → Option α} {ds : List D} {as : List α} (h : allO f ds = some as) : as.length = ds.length := by
  have := congrArg List.length (allO_some h)
  rw [List.length_map, List.length_map] at this
  exact this.symm
def tupP (d : D) : D := match sqD d with
  | some p => encP p
  | none => .non
theorem tupP_eq {d : D} {p : Pt} (h : sqD d = some p) : tupP d = encP p := by unfold tupP; rw [h]
theorem srt_strict {α : Type} {lt : α → α → Bool} (o : Ord lt) {l : List α} (n : l.Nodup) : AscS lt (srt lt l) := (srt_asc o l).strict o ((srt_perm lt l).nodup_iff.mpr n)
theorem srt_mem {α : Type} {lt : α → α → Bool} {l : List α} (a : α) : a ∈ srt lt l ↔ a ∈ l := (srt_perm lt l).mem_iff
theorem sqs_sort {ps : List Pt} (n : ps.Nodup) {M : List D} (nd : M.Nodup) (h : ∀ x, x ∈ M ↔ x ∈ ps.map encP) (s : SrtD M) : M = (srt ltP ps).map encP := sorted_set ordP (fun _ _ => encP_inj) srtD_P (srt_strict ordP n) srt_mem nd h s
theorem sds_sort {ps : List Sd} (n : ps.Nodup) {M : List D} (nd : M.Nodup) (h : ∀ x, x ∈ M ↔ x ∈ ps.map encS) (s : SrtD M) : M = (srt ltS ps).map encS := sorted_set ordS (fun _ _ => encS_inj) srtD_S (srt_strict ordS n) srt_mem nd h s
theorem eqv_Sn (s : Sd) : D.eqv (encS s) .non = false := by simp [encS, D.eqv, D.data, PyData.eqv]
theorem eqv_nn : D.eqv .non .non = true := by simp [D.eqv, D.data, PyData.eqv]
theorem any_optS (f : D → Option Sd) : ∀ ds : List D, ((ds.map fun d => optS (f d)).any fun z => z.eqv D.non) = (allO f ds).isNone
  | [] => rfl
  | d :: ds => by
    rw [List.map_cons, List.any_cons, any_optS f ds]
    simp only [allO]
    cases f d with
    | none => rw [show optS none = D.non from rfl, eqv_nn]; rfl
    | some s => rw [show optS (some s) = encS s from rfl, eqv_Sn]; cases allO f ds <;> rfl
theorem shps_optS (f : D → Option Sd) (ds : List D) : D.shps 59 (ds.map fun d => optS (f d)) = true := by
  rw [shps_all, List.all_map]
  refine List.all_eq_true.mpr fun d _ => ?_
  show D.shp 59 (optS (f d)) = true
  cases f d with
  | none => exact shp_non
  | some s => exact shp_S 57 s
theorem optS_map {f : D → Option Sd} {ds : List D} {ss : List Sd} (h : allO f ds = some ss) : (ds.map fun d => optS (f d)) = ss.map encS := allO_map (fun d a e => by show optS (f d) = _; rw [e]; rfl) h
/-- what is no instance -/
def noB (s : String) : Option Bool := if s = "NoneType" ∨ s = "bool" ∨ s = "int" ∨ s = "str" ∨ s = "list" ∨ s = "tuple" then some false else none
theorem noB_tab : noB "NoneType" = some false ∧ noB "bool" = some false ∧ noB "int" = some false ∧ noB "str" = some false ∧ noB "list" = some false ∧ noB "tuple" = some false := by decide
def endsL : List Sd := [((1, 0), (1, 1)), ((0, 1), (1, 1)), ((0, 0), (0, 1)), ((0, 0), (1, 0))]
def dENDS : D := .tup (endsL.map encS)
end VL

set_option linter.all false
set_option maxRecDepth 100000
set_option maxHeartbeats 4000000
namespace VL
open PySem PySem.Spec PyProof.Rows L2 Nv
/-! # rooms -/
def sqsO (v : D) : Option (List Pt) := match rowD v with
  | some ds => match allO sqD ds with
    | some ps => if 1 ≤ ps.length ∧ ps.length ≤ 8 ∧ ps.Nodup then some (srt ltP ps) else none
    | none => none
  | none => none
theorem sqsTold_O (CB : Addr) (v : D) : sqsTold CB v = match sqsO v with
  | some l => .ok (dSq l)
  | none => .error (exP CB "squares") := by
  unfold sqsTold sqsO
  cases rowD v with
  | none => rfl
  | some ds =>
    dsimp only
    cases allO sqD ds with
    | none => rfl
    | some ps =>
      dsimp only
      split <;> rfl
def shO (sq : List Pt) (v : D) : Option (List Sd) := match rowD v with
  | some ds => match allO (sideTold sq) ds with
    | some ss => if ss.Nodup then some (srt ltS ss) else none
    | none => none
  | none => none
theorem shTold_O (CB : Addr) (sq : List Pt) (v : D) : shTold CB sq v = match shO sq v with
  | some l => .ok (dSh l)
  | none => .error (exP CB "shut") := by
  unfold shTold shO
  cases rowD v with
  | none => rfl
  | some ds =>
    dsimp only
    cases allO (sideTold sq) ds with
    | none => rfl
    | some ps =>
      dsimp only
      split <;> rfl
theorem srt_len {α : Type} {lt : α → α → Bool} (l : List α) : (srt lt l).length = l.length := (srt_perm lt l).length_eq
theorem sqsO_ok {v : D} {sq : List Pt} (h : sqsO v = some sq) : 1 ≤ sq.length ∧ sq.length ≤ 8 ∧ AscS ltP sq ∧ ∀ p ∈ sq, inB p = true := by
  unfold sqsO at h
  split at h
  · split at h
    · rename_i ds e ps e2
      split at h
      · rename_i c
        cases h
        refine ⟨by rw [srt_len]; exact c.1, by rw [srt_len]; exact c.2.1, srt_strict ordP c.2.2, fun p hp => ?_⟩
        have hp := srt_mem (lt := ltP) p |>.mp hp
        have := allO_some e2
        have : some p ∈ ps.map some := List.mem_map.mpr ⟨p, hp, rfl⟩
        rw [← allO_some e2] at this
        obtain ⟨d, _, hd⟩ := List.mem_map.mp this
        exact (sqD_pt hd).2
      · cases h
    · cases h
  · cases h
def roomD (CR : Addr) (sq : List Pt) (sh : List Sd) (f : D) : D := .ins CR [("squares", dSq sq), ("shut", dSh sh), ("fine", f), ("many", .int sq.length), ("beyond", dBey (beys sq sh))]
open Classical in
/-- what Room(a, b, f) makes -/
noncomputable def roomTold (CR CB CF : Addr) (a b f : D) : Except Exn D := match sqsO a with
  | none => .error (exP CB "squares")
  | some sq => match shO sq b with
    | none => .error (exP CB "shut")
    | some sh => if numIn f (some 1) (some 24) then (if Hang sq sh then .ok (roomD CR sq sh f) else .error (exP CF "shut")) else .error (exP CB "fine")
def C_ri (CR CB CF : Addr) : Con := fun _ t ds Pq pe => ∃ a b f, ds = [a, b, f] ∧ okD a ∧ okD b ∧ okD f ∧ (∀ es, rowD b = some es → es.length < 64) ∧ endE Pq pe t (roomTold CR CB CF a b f)
/-! ## loops by what holds at each turn -/
theorem forG_i {T : Tg} {b : US} {E : VEn} {ds : List D} (W : Nat → Nat → List Sl → Prop) {t : Nat} {δ : List Sl} (h0 : W 0 t δ) (step : ∀ i d t δ, ds[i]? = some d → W i t δ → ∀ N : Nat → List Sl → Prop, (∀ t' δ', W (i + 1) t' δ' → N t' δ') → uT T d δ fun δ' => b { E with nx := N, ct := N, bk := E.nx } t δ')
    (fin : ∀ t δ, W ds.length t δ → E.nx t δ) : uForG T b ds E t δ := by
  have go : ∀ (r : List D) (i : Nat) (t : Nat) (δ : List Sl), ds.drop i = r → i ≤ ds.length → W i t δ → uForG T b r E t δ := by
    intro r
    induction r with
    | nil =>
      intro i t δ e li w
      simp only [uForG]
      have le := congrArg List.length e
      rw [List.length_drop, List.length_nil] at le
      have : i = ds.length := by omega
      subst this
      exact fin t δ w
    | cons d r ih =>
      intro i t δ e li w
      simp only [uForG]
      have ei : ds[i]? = some d := by
        have := congrArg (fun l => l[0]?) e
        simpa using this
      refine step i d t δ ei w _ fun t' δ' w' => ih (i + 1) t' δ' ?_ (List.getElem?_eq_some_iff.mp ei).1 w'
      rw [← List.drop_drop, e]
      rfl
  exact go ds 0 t δ rfl (Nat.zero_le _) h0
/-! ## open sides -/
def rowOpen (sq : List Pt) (n : Nat) (r : List (Option Nat)) : List Sd := r.filterMap fun o => match o with
  | some m => if n < m then some (sq.getD n (0, 0), sq.getD m (0, 0)) else none
  | none => none
def openPre (sq : List Pt) (rows : List (List (Option Nat))) (i : Nat) : List Sd := (List.range i).flatMap fun n => rowOpen sq n (rows.getD n [])
theorem openPre_succ (sq : List Pt) (rows : List (List (Option Nat))) (i : Nat) : openPre sq rows (i + 1) = openPre sq rows i ++ rowOpen sq i (rows.getD i []) := by
  unfold openPre
  rw [List.range_succ, List.flatMap_append, List.flatMap_singleton]
theorem rowOpen_len (sq : List Pt) (n : Nat) (r : List (Option Nat)) : (rowOpen sq n r).length ≤ r.length := List.length_filterMap_le _ _
def openS (sq : List Pt) (sh : List Sd) : List Sd := srt ltS (openPre sq (beys sq sh) sq.length)
theorem nmB : ((("squares" : Str) == ("shut" : Str)) = false) ∧ ((("squares" : Str) == ("fine" : Str)) = false) ∧ ((("squares" : Str) == ("many" : Str)) = false) ∧ ((("squares" : Str) == ("beyond" : Str)) = false) ∧ ((("shut" : Str) == ("squares" : Str)) = false) ∧ ((("shut" : Str) == ("fine" : Str)) = false) ∧ ((("shut" : Str) == ("many" : Str)) = false) ∧ ((("shut" : Str) == ("beyond" : Str)) = false) ∧ ((("fine" : Str) == ("squares" : Str)) = false) ∧ ((("fine" : Str) == ("shut" : Str)) = false) ∧ ((("fine" : Str) == ("many" : Str)) = false) ∧ ((("fine" : Str) == ("beyond" : Str)) = false) ∧ ((("many" : Str) == ("squares" : Str)) = false) ∧ ((("many" : Str) == ("shut" : Str)) = false) ∧ ((("many" : Str) == ("fine" : Str)) = false) ∧ ((("many" : Str) == ("beyond" : Str)) = false) ∧ ((("beyond" : Str) == ("squares" : Str)) = false) ∧ ((("beyond" : Str) == ("shut" : Str)) = false) ∧ ((("beyond" : Str) == ("fine" : Str)) = false) ∧ ((("beyond" : Str) == ("many" : Str)) = false) := by decide
theorem nmR : ((("squares" : Str) = ("shut" : Str)) = False) ∧ ((("squares" : Str) = ("fine" : Str)) = False) ∧ ((("squares" : Str) = ("many" : Str)) = False) ∧ ((("squares" : Str) = ("beyond" : Str)) = False) ∧ ((("shut" : Str) = ("squares" : Str)) = False) ∧ ((("shut" : Str) = ("fine" : Str)) = False) ∧ ((("shut" : Str) = ("many" : Str)) = False) ∧ ((("shut" : Str) = ("beyond" : Str)) = False) ∧ ((("fine" : Str) = ("squares" : Str)) = False) ∧ ((("fine" : Str) = ("shut" : Str)) = False) ∧ ((("fine" : Str) = ("many" : Str)) = False) ∧ ((("fine" : Str) = ("beyond" : Str)) = False) ∧ ((("many" : Str) = ("squares" : Str)) = False) ∧ ((("many" : Str) = ("shut" : Str)) = False) ∧ ((("many" : Str) = ("fine" : Str)) = False) ∧ ((("many" : Str) = ("beyond" : Str)) = False) ∧ ((("beyond" : Str) = ("squares" : Str)) = False) ∧ ((("beyond" : Str) = ("shut" : Str)) = False) ∧ ((("beyond" : Str) = ("fine" : Str)) = False) ∧ ((("beyond" : Str) = ("many" : Str)) = False) := by
  have h : ∀ a b : Str, (a == b) = false → (a = b) = False := fun a b e => eq_false (fun z => by rw [z, beq_self_eq_true] at e; cases e)
  obtain ⟨h0, h1, h2, h3, h4, h5, h6, h7, h8, h9, h10, h11, h12, h13, h14, h15, h16, h17, h18, h19⟩ := nmB
  exact ⟨h _ _ h0, h _ _ h1, h _ _ h2, h _ _ h3, h _ _ h4, h _ _ h5, h _ _ h6, h _ _ h7, h _ _ h8, h _ _ h9, h _ _ h10, h _ _ h11, h _ _ h12, h _ _ h13, h _ _ h14, h _ _ h15, h _ _ h16, h _ _ h17, h _ _ h18, h _ _ h19⟩
theorem openPre_len {sq : List Pt} {sh : List Sd} : ∀ i : Nat, (openPre sq (beys sq sh) i).length ≤ 4 * i
  | 0 => by simp [openPre]
  | i + 1 => by
    rw [openPre_succ, List.length_append]
    have h1 := openPre_len (sq := sq) (sh := sh) i
    have h2 := rowOpen_len sq i ((beys sq sh).getD i [])
    have h3 : ((beys sq sh).getD i []).length ≤ 4 := by
      rw [List.getD_eq_getElem?_getD]
      unfold beys
      rw [List.getElem?_map]
      cases sq[i]? <;> simp
    omega
def C_os (CR CB : Addr) : Con := fun _ t ds Pq pe => ∃ d, ds = [d] ∧ ((∃ sq sh f, d = roomD CR sq sh f ∧ sq.length ≤ 1000 ∧ Pq t (dSh (openS sq sh))) ∨ (d.ok = true ∧ pe t (exP CB "room")))
/-! ## walls -/
theorem set_enc {α : Type} {enc : α → D} {lt : α → α → Bool} (o : Ord lt) (inj : ∀ a b, enc a = enc b → a = b) (srtD : ∀ l : List α, SrtD (l.map enc) ↔ Asc lt l) {l : List α} {M : List D} (nd : M.Nodup) (h : ∀ x, x ∈ M ↔ x ∈ l.map enc) (s : SrtD M) : ∃ m : List α, M = m.map enc ∧ AscS lt m ∧ ∀ a, a ∈ m ↔ a ∈ l := by
  obtain ⟨m2, rfl, _⟩ := enc_list fun x hx => (h x).mp hx
  have nd2 : m2.Nodup := (List.pairwise_map.mp nd).imp fun {a b} z e => z (by rw [e])
  exact ⟨m2, rfl, ((srtD m2).mp s).strict o nd2, fun a => by rw [← mem_enc inj, h, mem_enc inj]⟩
def wall (p : Pt) (e : Sd) : Sd := ((p.1 + e.1.1, p.2 + e.1.2), (p.1 + e.2.1, p.2 + e.2.2))
def wallRow (p : Pt) (r : List (Option Nat)) (j : Nat) : List Sd := (List.range j).filterMap fun n => match r[n]?, endsL[n]? with
  | some none, some e => some (wall p e)
  | _, _ => none
theorem wallRow_succ (p : Pt) (r : List (Option Nat)) (j : Nat) : wallRow p r (j + 1) = wallRow p r j ++ match r[j]?, endsL[j]? with
  | some none, some e => [wall p e]
  | _, _ => [] := by
  unfold wallRow
  rw [List.range_succ, List.filterMap_append, List.filterMap_cons]
  congr 1
  split <;> rename_i h <;> split at h <;> simp_all
theorem wallRow_len (p : Pt) (r : List (Option Nat)) (j : Nat) : (wallRow p r j).length ≤ j := by
  have := List.length_filterMap_le (fun n => match r[n]?, endsL[n]? with
  | some none, some e => some (wall p e)
  | _, _ => none) (List.range j)
  rwa [List.length_range] at this
def wallsPre (sq : List Pt) (rows : List (List (Option Nat))) (i : Nat) : List Sd := (List.range i).flatMap fun n => wallRow (sq.getD n (0, 0)) (rows.getD n []) 4
theorem wallsPre_succ (sq : List Pt) (rows : List (List (Option Nat))) (i : Nat) : wallsPre sq rows (i + 1) = wallsPre sq rows i ++ wallRow (sq.getD i (0, 0)) (rows.getD i []) 4 := by
  unfold wallsPre
  rw [List.range_succ, List.flatMap_append, List.flatMap_singleton]
theorem wallsPre_len {sq : List Pt} {rows : List (List (Option Nat))} : ∀ i : Nat, (wallsPre sq rows i).length ≤ 4 * i
  | 0 => by simp [wallsPre]
  | i + 1 => by
    rw [wallsPre_succ, List.length_append]
    have h1 := wallsPre_len (sq := sq) (rows := rows) i
    have h2 := wallRow_len (sq.getD i (0, 0)) (rows.getD i []) 4
    omega
def C_wo (CR CB : Addr) : Con := fun _ t ds Pq pe => ∃ d, ds = [d] ∧ ((∃ sq sh f, d = roomD CR sq sh f ∧ sq.length ≤ 8 ∧ ∀ m, AscS ltS m → (∀ a, a ∈ m ↔ a ∈ wallsPre sq (beys sq sh) sq.length) → Pq t (dSh m)) ∨ (d.ok = true ∧ pe t (exP CB "room")))
end VL

set_option linter.all false
set_option maxRecDepth 100000
set_option maxHeartbeats 4000000
namespace VL
open PySem PySem.Spec PyProof.Rows L2 Nv
/-! # the laws' own rooms -/
def besL (p : Pt) : List Pt := [(p.1 + 1, p.2), (p.1, p.2 + 1), (p.1 - 1, p.2), (p.1, p.2 - 1)]
def C_be : Con := fun _ t ds Pq _ => ∃ p, ds = [encP p] ∧ Pq t (.lst ((besL p).map encP))
def C_sd : Con := fun _ t ds Pq _ => ∃ p q, ds = [encP p, encP q] ∧ Pq t (encS (mkS p q))
theorem sd_mk (p q : Pt) : (if ltP p q = true then (p, q) else (q, p)) = mkS p q := by
  unfold mkS
  cases h : ltP p q with
  | true => rw [if_pos rfl, if_neg (by rw [ordP.asym h]; exact Bool.false_ne_true)]
  | false =>
    rw [if_neg Bool.false_ne_true]
    cases h2 : ltP q p with
    | true => rw [if_pos rfl]
    | false => rw [if_neg Bool.false_ne_true, ordP.tot _ _ h h2]
/-- beside it, of the squares, the side between not shut -/
def nbP (sq : List Pt) (sh : List Sd) (p : Pt) : List Pt := (besL p).filter fun q => decide (q ∈ sq) && decide (mkS p q ∉ sh)
theorem nbP_mem {sq : List Pt} {sh : List Sd} {p q : Pt} : q ∈ nbP sq sh p ↔ q ∈ besL p ∧ q ∈ sq ∧ mkS p q ∉ sh := by
  unfold nbP
  rw [List.mem_filter, Bool.and_eq_true, decide_eq_true_eq, decide_eq_true_eq]
def HangP (sq : List Pt) (sh : List Sd) : Prop := ∀ p ∈ sq, Rch (nbP sq sh) (sq.getD 0 (0, 0)) p
def C_lh : Con := fun _ t ds Pq _ => ∃ sq sh, ds = [.lst (sq.map encP), .lst (sh.map encS)] ∧ 0 < sq.length ∧ sq.length ≤ 1000 ∧ sq.Nodup ∧ ∀ b : Bool, (b = true ↔ HangP sq sh) → Pq t (.bl b)
/-- within a walk of all -/
structure Dfs (sq : List Pt) (sh : List Sd) (s : Pt) (found left : List Pt) : Prop where
  nd : found.Nodup
  sub : ∀ x ∈ found, x ∈ sq
  r : ∀ x ∈ found, Rch (nbP sq sh) s x
  z : s ∈ found
  lf : ∀ x ∈ left, x ∈ found
  cl : ∀ x ∈ found, x ∉ left → ∀ y ∈ nbP sq sh x, y ∈ found
/-- one of them is looked at, of its neighbours the first ones done -/
structure DfsI (sq : List Pt) (sh : List Sd) (s : Pt) (found left : List Pt) (one : Pt) (bs : List Pt) : Prop where
  nd : found.Nodup
  sub : ∀ x ∈ found, x ∈ sq
  r : ∀ x ∈ found, Rch (nbP sq sh) s x
  z : s ∈ found
  lf : ∀ x ∈ left, x ∈ found
  o : one ∈ found
  cl : ∀ x ∈ found, x ∉ left → x ≠ one → ∀ y ∈ nbP sq sh x, y ∈ found
  pt : ∀ y ∈ bs, y ∈ nbP sq sh one → y ∈ found
theorem Dfs.start {sq : List Pt} {sh : List Sd} {s : Pt} (h : s ∈ sq) : Dfs sq sh s [s] [s] :=
  ⟨by simp, fun x hx => by rw [List.mem_singleton.mp hx]; exact h, fun x hx => by rw [List.mem_singleton.mp hx]; exact .here, by simp, fun x hx => hx, fun x hx n => absurd hx n⟩
theorem Dfs.few {sq : List Pt} {sh : List Sd} {s : Pt} {found left : List Pt} (d : Dfs sq sh s found left) : found.length ≤ sq.length := (sub_len d.nd d.sub).1
theorem DfsI.few {sq : List Pt} {sh : List Sd} {s : Pt} {found left bs : List Pt} {one : Pt} (d : DfsI sq sh s found left one bs) : found.length ≤ sq.length := (sub_len d.nd d.sub).1
theorem Dfs.pop {sq : List Pt} {sh : List Sd} {s : Pt} {found left : List Pt} {one : Pt} (d : Dfs sq sh s found left) (e : left[left.length - 1]? = some one) : DfsI sq sh s found left.dropLast one [] := by
  have ho : one ∈ left := List.mem_of_getElem? e
  refine ⟨d.nd, d.sub, d.r, d.z, fun x hx => d.lf x (List.dropLast_subset _ hx), d.lf _ ho, fun x hx n ne => d.cl x hx fun hl => ?_, fun y hy => by cases hy⟩
  have : left = left.dropLast ++ [one] := by
    have ln : left ≠ [] := fun z => by rw [z] at ho; cases ho
    rw [List.getElem?_eq_getElem (by have := List.length_pos_iff.mpr ln; omega)] at e
    have e2 : left.getLast ln = one := by rw [List.getLast_eq_getElem]; exact Option.some.inj e
    rw [← e2, List.dropLast_concat_getLast]
  rw [this] at hl
  rcases List.mem_append.mp hl with h | h
  · exact n h
  · exact ne (List.mem_singleton.mp h)
theorem DfsI.skip {sq : List Pt} {sh : List Sd} {s : Pt} {found left bs : List Pt} {one y : Pt} (d : DfsI sq sh s found left one bs) (h : ¬ (y ∈ sq ∧ y ∉ found ∧ mkS one y ∉ sh)) : DfsI sq sh s found left one (bs ++ [y]) :=
  ⟨d.nd, d.sub, d.r, d.z, d.lf, d.o, d.cl, fun x hx hn => by
    rcases List.mem_append.mp hx with z | z
    · exact d.pt x z hn
    · have := List.mem_singleton.mp z
      subst this
      obtain ⟨_, h2, h3⟩ := nbP_mem.mp hn
      rcases Classical.em (x ∈ found) with y | y
      · exact y
      · exact absurd ⟨h2, y, h3⟩ h⟩
theorem DfsI.add {sq : List Pt} {sh : List Sd} {s : Pt} {found left bs : List Pt} {one y : Pt} (d : DfsI sq sh s found left one bs) (hb : y ∈ besL one) (h1 : y ∈ sq) (h2 : y ∉ found) (h3 : mkS one y ∉ sh) : DfsI sq sh s (found ++ [y]) (left ++ [y]) one (bs ++ [y]) := by
  refine ⟨List.nodup_append.mpr ⟨d.nd, by simp, fun a ha c hc z => ?_⟩, fun x hx => ?_, fun x hx => ?_, List.mem_append_left _ d.z, fun x hx => ?_, List.mem_append_left _ d.o, fun x hx n ne w hw => ?_, fun x hx hn => ?_⟩
  · rw [List.mem_singleton.mp hc] at z
    exact h2 (z ▸ ha)
  · rcases List.mem_append.mp hx with z | z
    · exact d.sub x z
    · rw [List.mem_singleton.mp z]; exact h1
  · rcases List.mem_append.mp hx with z | z
    · exact d.r x z
    · rw [List.mem_singleton.mp z]; exact .next (d.r _ d.o) (nbP_mem.mpr ⟨hb, h1, h3⟩)
  · rcases List.mem_append.mp hx with z | z
    · exact List.mem_append_left _ (d.lf x z)
    · exact List.mem_append_right _ z
  · rcases List.mem_append.mp hx with z | z
    · exact List.mem_append_left _ (d.cl x z (fun u => n (List.mem_append_left _ u)) ne w hw)
    · exact absurd (List.mem_append_right _ z) n
  · rcases List.mem_append.mp hx with z | z
    · exact List.mem_append_left _ (d.pt x z hn)
    · exact List.mem_append_right _ z
theorem DfsI.done {sq : List Pt} {sh : List Sd} {s : Pt} {found left : List Pt} {one : Pt} (d : DfsI sq sh s found left one (besL one)) : Dfs sq sh s found left :=
  ⟨d.nd, d.sub, d.r, d.z, d.lf, fun x hx n y hy => by
    by_cases e : x = one
    · subst e; exact d.pt y (nbP_mem.mp hy).1 hy
    · exact d.cl x hx n e y hy⟩
theorem Dfs.fin {sq : List Pt} {sh : List Sd} {s : Pt} {found : List Pt} (d : Dfs sq sh s found []) (nd : sq.Nodup) : found.length = sq.length ↔ ∀ p ∈ sq, Rch (nbP sq sh) s p := by
  have all : ∀ y, Rch (nbP sq sh) s y → y ∈ found := by
    intro y h
    induction h with
    | here => exact d.z
    | next h hy ih => exact d.cl _ ih (by simp) _ hy
  constructor
  · intro h p hp
    have pm := (sub_len d.nd d.sub).2 (by omega)
    exact d.r p (pm.mem_iff.mpr hp)
  · intro h
    have := (sub_len nd fun a ha => all a (h a ha)).1
    have := d.few
    omega
def sidesAt (sq : List Pt) (p : Pt) : List Sd := (((besL p).take 2).filter fun q => decide (q ∈ sq)).map fun q => (p, q)
def sidesRaw (sq : List Pt) : List Sd := sq.flatMap (sidesAt sq)
theorem sidesAt_len (sq : List Pt) (p : Pt) : (sidesAt sq p).length ≤ 2 := by
  unfold sidesAt
  rw [List.length_map]
  exact Nat.le_trans (List.length_filter_le _ _) (by rw [List.length_take]; exact Nat.min_le_left _ _)
def C_ls : Con := fun _ t ds Pq _ => ∃ sq, ds = [.lst (sq.map encP)] ∧ sq.length ≤ 1000 ∧ Pq t (.lst ((srt ltS (sidesRaw sq)).map encS))
theorem raw_succ {sq : List Pt} {i : Nat} {p : Pt} (e : sq[i]? = some p) (S : List Pt) : (sq.take (i + 1)).flatMap (sidesAt S) = (sq.take i).flatMap (sidesAt S) ++ sidesAt S p := by
  rw [List.take_succ, e, List.flatMap_append]
  congr 1
  simp
theorem raw_len (sq S : List Pt) : (sq.flatMap (sidesAt S)).length ≤ 2 * sq.length := by
  induction sq with
  | nil => simp
  | cons p r ih =>
    rw [List.flatMap_cons, List.length_append, List.length_cons]
    have := sidesAt_len S p
    omega
theorem sidesAt_fm (S : List Pt) (p : Pt) : ((besL p).take 2).filterMap (fun q => if q ∈ S then some (encS (p, q)) else none) = (sidesAt S p).map encS := by
  unfold sidesAt
  generalize (besL p).take 2 = l
  induction l with
  | nil => rfl
  | cons q r ih =>
    by_cases h : q ∈ S
    · rw [List.filterMap_cons_some (b := encS (p, q)) (by simp [h]), ih, List.filter_cons_of_pos (by simpa using h), List.map_cons, List.map_cons]
    · rw [List.filterMap_cons_none (by simp [h]), ih, List.filter_cons_of_neg (by simpa using h)]
/-- the ends of the side between two squares -/
def lawEnds (p q : Pt) : Sd := if p.1 = q.1 then ((max p.1 q.1, max p.2 q.2), (max p.1 q.1 + 1, max p.2 q.2)) else ((max p.1 q.1, max p.2 q.2), (max p.1 q.1, max p.2 q.2 + 1))
def C_le : Con := fun _ t ds Pq _ => ∃ p q, ds = [encP p, encP q] ∧ Pq t (encS (lawEnds p q))
theorem take_enc (k : Nat) (l : List Pt) : (l.map encP).take k = (l.take k).map encP := List.map_take.symm
end VL

set_option linter.all false
set_option maxRecDepth 100000
set_option maxHeartbeats 4000000
namespace VL
open PySem PySem.Spec PyProof.Rows L2 Nv
/-! # rooms as the laws draw them -/
theorem bes_iff {p q : Pt} : q ∈ besL p ↔ (q.1 = p.1 + 1 ∧ q.2 = p.2) ∨ (q.1 = p.1 ∧ q.2 = p.2 + 1) ∨ (q.1 = p.1 - 1 ∧ q.2 = p.2) ∨ (q.1 = p.1 ∧ q.2 = p.2 - 1) := by
  obtain ⟨a, b⟩ := q
  simp [besL, Prod.ext_iff]
theorem bes_sym {p q : Pt} (h : q ∈ besL p) : p ∈ besL q := by
  rw [bes_iff] at h ⊢
  omega
theorem mkS_sym (p q : Pt) : mkS p q = mkS q p := by
  unfold mkS
  cases h : ltP p q with
  | true => rw [ordP.asym h]; rfl
  | false =>
    cases h2 : ltP q p with
    | true => rfl
    | false => rw [ordP.tot _ _ h h2]
theorem nbP_sym {sq : List Pt} {sh : List Sd} {p q : Pt} (hp : p ∈ sq) (h : q ∈ nbP sq sh p) : p ∈ nbP sq sh q := by
  obtain ⟨h1, h2, h3⟩ := nbP_mem.mp h
  exact nbP_mem.mpr ⟨bes_sym h1, hp, by rw [mkS_sym]; exact h3⟩
theorem Rch.sub {α : Type} {nb nb' : α → List α} {a x : α} (s : ∀ x y, y ∈ nb x → y ∈ nb' x) (h : Rch nb a x) : Rch nb' a x := by
  induction h with
  | here => exact .here
  | next _ hy ih => exact .next ih (s _ _ hy)
theorem Rch.trans {α : Type} {nb : α → List α} {a b x : α} (h1 : Rch nb a b) (h2 : Rch nb b x) : Rch nb a x := by
  induction h2 with
  | here => exact h1
  | next _ hy ih => exact .next ih hy
theorem Rch.mem {sq : List Pt} {sh : List Sd} {a x : Pt} (h : Rch (nbP sq sh) a x) (ha : a ∈ sq) : x ∈ sq := by
  cases h with
  | here => exact ha
  | next _ hy => exact (nbP_mem.mp hy).2.1
theorem Rch.symm {sq : List Pt} {sh : List Sd} {a x : Pt} (h : Rch (nbP sq sh) a x) (ha : a ∈ sq) : Rch (nbP sq sh) x a := by
  induction h with
  | here => exact .here
  | next h1 hy ih => exact (Rch.next .here (nbP_sym (h1.mem ha) hy)).trans ih
/-- squares that were put beside one another -/
structure Blt (found : List Pt) (n : Nat) : Prop where
  nd : found.Nodup
  l1 : 1 ≤ found.length
  ln : found.length ≤ n + 1
  bd : ∀ p ∈ found, -(41 + n : Int) ≤ p.1 ∧ p.1 ≤ 41 + n ∧ -(41 + n : Int) ≤ p.2 ∧ p.2 ≤ 41 + n
  con : ∃ f ∈ found, ∀ p ∈ found, Rch (nbP found []) f p
theorem Blt.one {p : Pt} (h : -41 ≤ p.1 ∧ p.1 ≤ 41 ∧ -41 ≤ p.2 ∧ p.2 ≤ 41) : Blt [p] 0 :=
  ⟨by simp, by simp, by simp, fun q hq => by rw [List.mem_singleton.mp hq]; simpa using h, p, by simp, fun q hq => by rw [List.mem_singleton.mp hq]; exact .here⟩
theorem Blt.more {found : List Pt} {n : Nat} (b : Blt found n) : Blt found (n + 1) := ⟨b.nd, b.l1, by have := b.ln; omega, fun p hp => by have := b.bd p hp; omega, b.con⟩
theorem Blt.add {found : List Pt} {n : Nat} {one new : Pt} (b : Blt found n) (ho : one ∈ found) (hb : new ∈ besL one) (hn : new ∉ found) : Blt (found ++ [new]) (n + 1) := by
  obtain ⟨f, hf, hr⟩ := b.con
  have sub : ∀ x y, y ∈ nbP found [] x → y ∈ nbP (found ++ [new]) [] x := fun x y h => by
    obtain ⟨h1, h2, h3⟩ := nbP_mem.mp h
    exact nbP_mem.mpr ⟨h1, List.mem_append_left _ h2, h3⟩
  refine ⟨List.nodup_append.mpr ⟨b.nd, by simp, fun a ha c hc z => ?_⟩, by rw [List.length_append]; have := b.l1; omega, by rw [List.length_append]; have := b.ln; simp only [List.length_cons, List.length_nil]; omega, fun p hp => ?_, f, List.mem_append_left _ hf, fun p hp => ?_⟩
  · rw [List.mem_singleton.mp hc] at z
    exact hn (z ▸ ha)
  · rcases List.mem_append.mp hp with z | z
    · have := b.bd p z; omega
    · rw [List.mem_singleton.mp z]
      have := b.bd one ho
      have := bes_iff.mp hb
      omega
  · rcases List.mem_append.mp hp with z | z
    · exact (hr p z).sub sub
    · rw [List.mem_singleton.mp z]
      exact .next ((hr one ho).sub sub) (nbP_mem.mpr ⟨hb, List.mem_append_right _ (by simp), by simp⟩)
theorem nbP_congr {sq sq' : List Pt} {sh sh' : List Sd} (h : ∀ x, x ∈ sq ↔ x ∈ sq') (h2 : ∀ x, x ∈ sh ↔ x ∈ sh') (x y : Pt) : y ∈ nbP sq sh x ↔ y ∈ nbP sq' sh' x := by
  rw [nbP_mem, nbP_mem, h, h2]
theorem hang_of {sq : List Pt} {sh : List Sd} {f : Pt} (l : 0 < sq.length) (hf : f ∈ sq) (h : ∀ p ∈ sq, Rch (nbP sq sh) f p) : HangP sq sh := fun p hp => by
  have m0 : sq.getD 0 (0, 0) ∈ sq := by
    rw [List.getD_eq_getElem?_getD, List.getElem?_eq_getElem l]
    exact List.getElem_mem l
  exact ((h _ m0).symm hf).trans (h p hp)
theorem Blt.hang {found : List Pt} {n : Nat} (b : Blt found n) : HangP (srt ltP found) [] := by
  obtain ⟨f, hf, hr⟩ := b.con
  have l := b.l1
  refine hang_of (by rw [srt_len]; omega) (srt_mem f |>.mpr hf) fun p hp => ?_
  exact (hr p (srt_mem p |>.mp hp)).sub fun x y h => (nbP_congr (fun z => (srt_mem z).symm) (fun z => Iff.rfl) x y).mp h
theorem hang_srt {sq : List Pt} {sh : List Sd} (h : HangP sq sh) : HangP sq (srt ltS sh) := fun p hp => (h p hp).sub fun x y z => (nbP_congr (fun _ => Iff.rfl) (fun u => (srt_mem u).symm) x y).mp z
/-- what a law draws as a room -/
structure GoodL (sq : List Pt) (sh : List Sd) : Prop where
  asc : AscS ltP sq
  l1 : 1 ≤ sq.length
  l8 : sq.length ≤ 8
  inb : ∀ p ∈ sq, inB p = true
  ash : AscS ltS sh
  s2 : sh.length ≤ 2
  sub : ∀ s ∈ sh, s ∈ sidesRaw sq
  hang : HangP sq sh
open Classical in
/-- what can be shut as well -/
noncomputable def selD (sq : List Pt) (shut : List Sd) (s : Sd) : Option D := if s ∉ shut ∧ HangP sq (shut ++ [s]) then some (encS s) else none
theorem selD_yes {sq : List Pt} {shut : List Sd} {s : Sd} (h : s ∉ shut ∧ HangP sq (shut ++ [s])) : selD sq shut s = some (encS s) := if_pos h
theorem selD_no {sq : List Pt} {shut : List Sd} {s : Sd} (h : ¬ (s ∉ shut ∧ HangP sq (shut ++ [s]))) : selD sq shut s = none := if_neg h
theorem sel_fm (sq : List Pt) (shut : List Sd) : ∀ l : List Sd, ∃ S : List Sd, l.filterMap (selD sq shut) = S.map encS ∧ (∀ s ∈ S, s ∈ l ∧ s ∉ shut ∧ HangP sq (shut ++ [s])) ∧ S.length ≤ l.length
  | [] => ⟨[], rfl, fun s h => (by cases h), Nat.le_refl _⟩
  | a :: l => by
    obtain ⟨S, e, m, ln⟩ := sel_fm sq shut l
    rcases Classical.em (a ∉ shut ∧ HangP sq (shut ++ [a])) with h | h
    · refine ⟨a :: S, by rw [List.filterMap_cons_some (selD_yes h), e]; rfl, fun s hs => ?_, by simp only [List.length_cons]; omega⟩
      rcases List.mem_cons.mp hs with z | z
      · subst z; exact ⟨List.mem_cons_self, h⟩
      · exact ⟨List.mem_cons_of_mem _ (m s z).1, (m s z).2⟩
    · exact ⟨S, by rw [List.filterMap_cons_none (selD_no h), e], fun s hs => ⟨List.mem_cons_of_mem _ (m s hs).1, (m s hs).2⟩, by simp only [List.length_cons]; omega⟩
def roomL (sq : List Pt) (sh : List Sd) (f : Int) : D := .tup [.lst (sq.map encP), .lst (sh.map encS), .int f]
def C_lr : Con := fun m t ds Pq _ => ∃ L l cs k, m = some (L, l, cs) ∧ ds = [.adr L, .int k] ∧ 1 ≤ k ∧ k ≤ 8 ∧ t ≤ 800000 ∧ ∀ sq sh f, GoodL sq sh → (f = 1 ∨ f = 2 ∨ f = 3) → Pq (t + 40) (roomL sq sh f)
theorem Blt.inB {found : List Pt} {n : Nat} (b : Blt found n) (h : n ≤ 8) : ∀ p ∈ found, VL.inB p = true := fun p hp => by
  have := b.bd p hp
  simp only [VL.inB, Bool.and_eq_true, decide_eq_true_eq]
  omega
end VL

set_option linter.all false
set_option maxRecDepth 100000
set_option maxHeartbeats 4000000
namespace VL
open PySem PySem.Spec PyProof.Rows L2 Nv
/-! # what a law draws is a room; what is told of it both ways -/
theorem srt_id {α : Type} {lt : α → α → Bool} (o : Ord lt) {l : List α} (h : AscS lt l) : srt lt l = l := (srt_strict o (h.nodup o)).uniq o h fun x => srt_mem x
theorem ptD_enc (p : Pt) : ptD (encP p) = some p := rfl
theorem sqD_enc {p : Pt} (h : inB p = true) : sqD (encP p) = some p := by
  show (if inB p then some p else none) = some p
  rw [if_pos h]
theorem allO_enc {α : Type} {f : D → Option α} {enc : α → D} : ∀ {l : List α}, (∀ a ∈ l, f (enc a) = some a) → allO f (l.map enc) = some l
  | [], _ => rfl
  | a :: l, h => by
    simp only [List.map_cons, allO]
    rw [h a List.mem_cons_self, allO_enc fun b hb => h b (List.mem_cons_of_mem _ hb)]
theorem GoodL.sqs {sq : List Pt} {sh : List Sd} (g : GoodL sq sh) : sqsO (.lst (sq.map encP)) = some sq := by
  unfold sqsO
  simp only [rowD_lst]
  rw [allO_enc fun p hp => sqD_enc (g.inb p hp)]
  dsimp only
  rw [if_pos ⟨g.l1, g.l8, g.asc.nodup ordP⟩, srt_id ordP g.asc]
/-- the first two beside a square are behind it -/
theorem side_iff {sq : List Pt} {s : Sd} : s ∈ sidesRaw sq ↔ s.1 ∈ sq ∧ s.2 ∈ sq ∧ s.2 ∈ besL s.1 ∧ ltP s.1 s.2 = true := by
  obtain ⟨p, q⟩ := s
  have two : q ∈ (besL p).take 2 ↔ q ∈ besL p ∧ ltP p q = true := by
    rw [bes_iff, ltP_iff]
    obtain ⟨a, b⟩ := q
    simp only [besL, List.take_succ_cons, List.take_zero, List.mem_cons, List.not_mem_nil, or_false, Prod.ext_iff]
    omega
  unfold sidesRaw sidesAt
  simp only [List.mem_flatMap, List.mem_map, List.mem_filter, decide_eq_true_eq, Prod.mk.injEq]
  constructor
  · rintro ⟨p', hp, q', ⟨h1, h2⟩, rfl, rfl⟩
    exact ⟨hp, h2, two.mp h1⟩
  · rintro ⟨hp, hq, h⟩
    exact ⟨p, hp, q, ⟨two.mpr h, hq⟩, rfl, rfl⟩
theorem mkS_lt {p q : Pt} (h : ltP p q = true) : mkS p q = (p, q) := by
  unfold mkS
  rw [ordP.asym h]
  rfl
theorem GoodL.told {sq : List Pt} {sh : List Sd} (g : GoodL sq sh) : ∀ s ∈ sh, sideTold sq (encS s) = some s := fun s hs => by
  obtain ⟨h1, h2, h3, h4⟩ := side_iff.mp (g.sub s hs)
  unfold sideTold
  simp only [rowD_S, ptD_enc]
  rw [mkS_lt h4]
  refine if_pos ⟨h1, h2, ?_⟩
  have := bes_iff.mp h3
  dsimp only
  omega
theorem GoodL.shs {sq : List Pt} {sh : List Sd} (g : GoodL sq sh) : shO sq (.lst (sh.map encS)) = some sh := by
  unfold shO
  simp only [rowD_lst]
  rw [allO_enc g.told]
  dsimp only
  rw [if_pos (g.ash.nodup ordS), srt_id ordS g.ash]
/-! ## hanging together by numbers and by points -/
theorem nbr_bes {p q : Pt} : q ∈ besL p ↔ ∃ s : Int, (s = 0 ∨ s = 1 ∨ s = 2 ∨ s = 3) ∧ q = nbr p s := by
  obtain ⟨a, b⟩ := q
  constructor
  · intro h
    rcases bes_iff.mp h with h | h | h | h
    · exact ⟨0, by decide, by simp only [nbr, step, Prod.mk.injEq, if_true]; dsimp only at h; omega⟩
    · exact ⟨1, by decide, by simp [nbr, step, Prod.ext_iff]; dsimp only at h; omega⟩
    · exact ⟨2, by decide, by simp [nbr, step, Prod.ext_iff]; dsimp only at h; omega⟩
    · exact ⟨3, by decide, by simp [nbr, step, Prod.ext_iff]; dsimp only at h; omega⟩
  · rintro ⟨s, hs, e⟩
    rw [e, bes_iff]
    rcases hs with rfl | rfl | rfl | rfl <;> simp [nbr, step] <;> omega
theorem nbN_iff {sq : List Pt} {sh : List Sd} {n m : Nat} {p : Pt} (e : sq[n]? = some p) : m ∈ nbN sq sh n ↔ ∃ q, m = sq.idxOf q ∧ q ∈ nbP sq sh p := by
  unfold nbN
  rw [e]
  simp only [nums, List.mem_filterMap, id_eq, List.mem_cons, List.not_mem_nil, or_false, exists_eq_right]
  have one : ∀ s : Int, (some m = bey sq sh p s ↔ nbr p s ∈ sq ∧ mkS p (nbr p s) ∉ sh ∧ m = sq.idxOf (nbr p s)) := fun s => by
    unfold bey
    split
    · rename_i h; simp [h]
    · rename_i h
      simp only [reduceCtorEq, false_iff]
      exact fun z => h ⟨z.1, z.2.1⟩
  rw [one, one, one, one]
  constructor
  · rintro (h | h | h | h)
    · exact ⟨_, h.2.2, nbP_mem.mpr ⟨nbr_bes.mpr ⟨0, by decide, rfl⟩, h.1, h.2.1⟩⟩
    · exact ⟨_, h.2.2, nbP_mem.mpr ⟨nbr_bes.mpr ⟨1, by decide, rfl⟩, h.1, h.2.1⟩⟩
    · exact ⟨_, h.2.2, nbP_mem.mpr ⟨nbr_bes.mpr ⟨2, by decide, rfl⟩, h.1, h.2.1⟩⟩
    · exact ⟨_, h.2.2, nbP_mem.mpr ⟨nbr_bes.mpr ⟨3, by decide, rfl⟩, h.1, h.2.1⟩⟩
  · rintro ⟨q, hm, hq⟩
    obtain ⟨h1, h2, h3⟩ := nbP_mem.mp hq
    obtain ⟨s, hs, rfl⟩ := nbr_bes.mp h1
    rcases hs with rfl | rfl | rfl | rfl
    · exact .inl ⟨h2, h3, hm⟩
    · exact .inr (.inl ⟨h2, h3, hm⟩)
    · exact .inr (.inr (.inl ⟨h2, h3, hm⟩))
    · exact .inr (.inr (.inr ⟨h2, h3, hm⟩))
theorem hang_iff {sq : List Pt} {sh : List Sd} (nd : sq.Nodup) (l : 0 < sq.length) : Hang sq sh ↔ HangP sq sh := by
  have g0 : sq[0]? = some (sq.getD 0 (0, 0)) := by rw [List.getD_eq_getElem?_getD, List.getElem?_eq_getElem l]; rfl
  have ix : ∀ {q : Pt}, q ∈ sq → sq[sq.idxOf q]? = some q := fun {q} h => by
    have := List.idxOf_lt_length_of_mem h
    rw [List.getElem?_eq_getElem this, List.getElem_idxOf]
  have dn : ∀ {n : Nat}, Rch (nbN sq sh) 0 n → ∀ p, sq[n]? = some p → Rch (nbP sq sh) (sq.getD 0 (0, 0)) p := by
    intro n h
    induction h with
    | here => intro p e; rw [g0] at e; cases e; exact .here
    | @next x y h1 hy ih =>
      intro p e
      have lx : x < sq.length := by
        cases h1 with
        | here => exact l
        | next _ z => exact nbN_low _ z
      have ex := List.getElem?_eq_getElem lx
      obtain ⟨q, rfl, hq⟩ := (nbN_iff ex).mp hy
      rw [ix (nbP_mem.mp hq).2.1] at e
      cases e
      exact .next (ih _ ex) hq
  have up : ∀ {p : Pt}, Rch (nbP sq sh) (sq.getD 0 (0, 0)) p → Rch (nbN sq sh) 0 (sq.idxOf p) := by
    intro p h
    induction h with
    | here =>
      have m0 : sq.getD 0 (0, 0) ∈ sq := List.mem_of_getElem? g0
      have : sq.idxOf (sq.getD 0 (0, 0)) = 0 := by
        have e1 := ix m0
        have l1 := List.idxOf_lt_length_of_mem m0
        exact (List.getElem?_inj l1 nd).mp (by rw [e1, g0])
      rw [this]; exact .here
    | @next x y h1 hy ih =>
      have mx : x ∈ sq := h1.mem (List.mem_of_getElem? g0)
      exact .next ih ((nbN_iff (ix mx)).mpr ⟨y, rfl, hy⟩)
  constructor
  · intro h p hp
    exact dn (h _ (List.idxOf_lt_length_of_mem hp)) p (ix hp)
  · intro h n hn
    have e := List.getElem?_eq_getElem hn
    have m := List.getElem_mem hn
    have := up (h _ m)
    have i2 : sq.idxOf sq[n] = n := (List.getElem?_inj (List.idxOf_lt_length_of_mem m) nd).mp (by rw [ix m, e])
    rwa [i2] at this
theorem GoodL.room {sq : List Pt} {sh : List Sd} {CR CB CF : Addr} {f : Int} (g : GoodL sq sh) (hf : f = 1 ∨ f = 2 ∨ f = 3) : roomTold CR CB CF (.lst (sq.map encP)) (.lst (sh.map encS)) (.int f) = .ok (roomD CR sq sh (.int f)) := by
  unfold roomTold
  rw [g.sqs]
  dsimp only
  rw [g.shs]
  dsimp only
  have h := (hang_iff (sh := sh) (g.asc.nodup ordP) g.l1).mpr g.hang
  rw [if_pos (by rcases hf with rfl | rfl | rfl <;> decide), if_pos h]
end VL

set_option linter.all false
set_option maxRecDepth 100000
set_option maxHeartbeats 4000000
namespace VL
open PySem PySem.Spec PyProof.Rows L2 Nv
theorem asc_idx {α : Type} {lt : α → α → Bool} (o : Ord lt) {l : List α} (h : AscS lt l) {i j : Nat} {a b : α} (ea : l[i]? = some a) (eb : l[j]? = some b) : i < j ↔ lt a b = true := by
  obtain ⟨la, ha⟩ := List.getElem?_eq_some_iff.mp ea
  obtain ⟨lb, hb⟩ := List.getElem?_eq_some_iff.mp eb
  have pw := List.pairwise_iff_getElem.mp h
  constructor
  · intro lt'
    rw [← ha, ← hb]
    exact pw i j la lb lt'
  · intro hl
    rcases Nat.lt_trichotomy i j with z | z | z
    · exact z
    · subst z
      rw [ea] at eb
      cases eb
      rw [o.irr] at hl; cases hl
    · have := pw j i lb la z
      rw [ha, hb] at this
      rw [o.asym this] at hl; cases hl
theorem rowOpen_nums (sq : List Pt) (n : Nat) : ∀ r : List (Option Nat), rowOpen sq n r = ((nums r).filter fun m => decide (n < m)).map fun m => (sq.getD n (0, 0), sq.getD m (0, 0))
  | [] => rfl
  | none :: r => by
    have ih := rowOpen_nums sq n r
    unfold rowOpen at ih ⊢
    rw [List.filterMap_cons_none (by rfl), ih]
    rfl
  | some m :: r => by
    have ih := rowOpen_nums sq n r
    have e : nums (some m :: r) = m :: nums r := rfl
    rw [e]
    unfold rowOpen at ih ⊢
    by_cases h : n < m
    · rw [List.filterMap_cons_some (b := (sq.getD n (0, 0), sq.getD m (0, 0))) (by simp [h]), ih, List.filter_cons_of_pos (by simpa using h), List.map_cons]
    · rw [List.filterMap_cons_none (by simp [h]), ih, List.filter_cons_of_neg (by simpa using h)]
theorem getD_of {l : List Pt} {n : Nat} {p : Pt} (e : l[n]? = some p) : l.getD n (0, 0) = p := by rw [List.getD_eq_getElem?_getD, e]; rfl
theorem idx_at {sq : List Pt} {q : Pt} (h : q ∈ sq) : sq[sq.idxOf q]? = some q := by
  have := List.idxOf_lt_length_of_mem h
  rw [List.getElem?_eq_getElem this, List.getElem_idxOf]
theorem row_nums {sq : List Pt} {sh : List Sd} {n : Nat} (l : n < sq.length) : nums ((beys sq sh).getD n []) = nbN sq sh n := by
  obtain ⟨r, e, h, _⟩ := beys_at (sh := sh) l
  rw [List.getD_eq_getElem?_getD, e]
  exact h
theorem openPre_mem {sq : List Pt} {sh : List Sd} (a : AscS ltP sq) {s : Sd} : s ∈ openPre sq (beys sq sh) sq.length ↔ s ∈ sidesRaw sq ∧ s ∉ sh := by
  unfold openPre
  rw [List.mem_flatMap, side_iff]
  constructor
  · rintro ⟨n, hn, hs⟩
    have ln := List.mem_range.mp hn
    rw [rowOpen_nums, row_nums ln] at hs
    obtain ⟨m, hm, rfl⟩ := List.mem_map.mp hs
    obtain ⟨hm1, hm2⟩ := List.mem_filter.mp hm
    have lt := of_decide_eq_true hm2
    have en := List.getElem?_eq_getElem ln
    obtain ⟨q, rfl, hq⟩ := (nbN_iff en).mp hm1
    obtain ⟨q1, q2, q3⟩ := nbP_mem.mp hq
    rw [getD_of en, getD_of (idx_at q2)]
    have hl := (asc_idx ordP a en (idx_at q2)).mp lt
    rw [mkS_lt hl] at q3
    exact ⟨⟨List.getElem_mem ln, q2, q1, hl⟩, q3⟩
  · rintro ⟨⟨h1, h2, h3, h4⟩, h5⟩
    have ln := List.idxOf_lt_length_of_mem h1
    refine ⟨sq.idxOf s.1, List.mem_range.mpr ln, ?_⟩
    rw [rowOpen_nums, row_nums ln]
    refine List.mem_map.mpr ⟨sq.idxOf s.2, List.mem_filter.mpr ⟨(nbN_iff (idx_at h1)).mpr ⟨s.2, rfl, nbP_mem.mpr ⟨h3, h2, by rw [mkS_lt h4]; exact h5⟩⟩, decide_eq_true ((asc_idx ordP a (idx_at h1) (idx_at h2)).mpr h4)⟩, ?_⟩
    rw [getD_of (idx_at h1), getD_of (idx_at h2)]
theorem openPre_nodup {sq : List Pt} {sh : List Sd} (a : AscS ltP sq) : (openPre sq (beys sq sh) sq.length).Nodup := by
  have nd := a.nodup ordP
  unfold openPre
  refine List.pairwise_flatMap.mpr ⟨fun n hn => ?_, ?_⟩
  · have ln := List.mem_range.mp hn
    rw [rowOpen_nums, row_nums ln]
    refine List.pairwise_map.mpr ?_
    refine ((nbN_nodup (sq := sq) (sh := sh) (n := n)).filter fun m => decide (n < m)).imp_of_mem fun {m m'} hm hm' ne e => ne ?_
    have l1 := nbN_low m (List.mem_filter.mp hm).1
    have l2 := nbN_low m' (List.mem_filter.mp hm').1
    have e := (Prod.ext_iff.mp e).2
    dsimp only at e
    rw [getD_of (List.getElem?_eq_getElem l1), getD_of (List.getElem?_eq_getElem l2)] at e
    exact (List.getElem?_inj l1 nd).mp (by rw [List.getElem?_eq_getElem l1, List.getElem?_eq_getElem l2, e])
  · refine (List.nodup_range (n := sq.length)).imp_of_mem fun {n n'} hn hn' ne x hx y hy e => ne ?_
    have l1 := List.mem_range.mp hn
    have l2 := List.mem_range.mp hn'
    rw [rowOpen_nums] at hx hy
    obtain ⟨m, _, rfl⟩ := List.mem_map.mp hx
    obtain ⟨m', _, rfl⟩ := List.mem_map.mp hy
    have e := (Prod.ext_iff.mp e).1
    dsimp only at e
    rw [getD_of (List.getElem?_eq_getElem l1), getD_of (List.getElem?_eq_getElem l2)] at e
    exact (List.getElem?_inj l1 nd).mp (by rw [List.getElem?_eq_getElem l1, List.getElem?_eq_getElem l2, e])
/-- the law's own list of open sides -/
def dueL (sq : List Pt) (sh : List Sd) : List Sd := (srt ltS (sidesRaw sq)).filter fun s => decide (s ∉ sh)
theorem sidesRaw_nodup {sq : List Pt} (nd : sq.Nodup) : (sidesRaw sq).Nodup := by
  unfold sidesRaw
  refine List.pairwise_flatMap.mpr ⟨fun p hp => ?_, nd.imp fun {p q} ne x hx y hy e => ?_⟩
  · unfold sidesAt
    refine List.pairwise_map.mpr ?_
    have n2 : ((besL p).take 2).Nodup := by simp [besL]; omega
    exact (n2.filter _).imp fun {a b} ne e => ne (Prod.ext_iff.mp e).2
  · unfold sidesAt at hx hy
    obtain ⟨_, _, rfl⟩ := List.mem_map.mp hx
    obtain ⟨_, _, rfl⟩ := List.mem_map.mp hy
    exact ne (Prod.ext_iff.mp e).1
theorem open_due {sq : List Pt} {sh : List Sd} (a : AscS ltP sq) : openS sq sh = dueL sq sh := by
  unfold openS
  refine (srt_strict ordS (openPre_nodup a)).uniq ordS ((srt_strict ordS (sidesRaw_nodup (a.nodup ordP))).filter _) fun s => ?_
  rw [srt_mem, openPre_mem a]
  unfold dueL
  rw [List.mem_filter, srt_mem, decide_eq_true_eq]
/-! ## walls -/
def wallsL (sq : List Pt) (sh : List Sd) : List Sd := sq.flatMap fun p => ((besL p).filter fun q => decide (q ∉ sq) || decide (mkS p q ∈ sh)).map (lawEnds p)
theorem wall_ends (p : Pt) : ∀ (j : Nat) (e : Sd), endsL[j]? = some e → wall p e = lawEnds p (nbr p (j : Int))
  | 0, e, h => by
    cases h
    have z : nbr p ((0 : Nat) : Int) = (p.1 + 1, p.2 + 0) := rfl
    rw [z]
    unfold wall lawEnds
    rw [if_neg (by dsimp only; omega)]
    simp only [Prod.mk.injEq]
    omega
  | 1, e, h => by
    cases h
    have z : nbr p ((1 : Nat) : Int) = (p.1 + 0, p.2 + 1) := rfl
    rw [z]
    unfold wall lawEnds
    rw [if_pos (by dsimp only; omega)]
    simp only [Prod.mk.injEq]
    omega
  | 2, e, h => by
    cases h
    have z : nbr p ((2 : Nat) : Int) = (p.1 + -1, p.2 + 0) := rfl
    rw [z]
    unfold wall lawEnds
    rw [if_neg (by dsimp only; omega)]
    simp only [Prod.mk.injEq]
    omega
  | 3, e, h => by
    cases h
    have z : nbr p ((3 : Nat) : Int) = (p.1 + 0, p.2 + -1) := rfl
    rw [z]
    unfold wall lawEnds
    rw [if_pos (by dsimp only; omega)]
    simp only [Prod.mk.injEq]
    omega
  | j + 4, e, h => by simp [endsL] at h
theorem bey_none {sq : List Pt} {sh : List Sd} {p : Pt} {s : Int} : bey sq sh p s = none ↔ nbr p s ∉ sq ∨ mkS p (nbr p s) ∈ sh := by
  unfold bey
  split
  · rename_i h
    simp only [reduceCtorEq, false_iff, not_or, Classical.not_not]
    exact ⟨h.1, h.2⟩
  · rename_i h
    simp only [true_iff]
    rcases Classical.em (nbr p s ∈ sq) with z | z
    · exact .inr (Classical.not_not.mp fun y => h ⟨z, y⟩)
    · exact .inl z
theorem walls_mem {sq : List Pt} {sh : List Sd} {a : Sd} : a ∈ wallsPre sq (beys sq sh) sq.length ↔ a ∈ wallsL sq sh := by
  unfold wallsPre wallsL
  rw [List.mem_flatMap, List.mem_flatMap]
  have row : ∀ n p, sq[n]? = some p → (a ∈ wallRow (sq.getD n (0, 0)) ((beys sq sh).getD n []) 4 ↔ a ∈ ((besL p).filter fun q => decide (q ∉ sq) || decide (mkS p q ∈ sh)).map (lawEnds p)) := fun n p e => by
    have er : (beys sq sh).getD n [] = [bey sq sh p 0, bey sq sh p 1, bey sq sh p 2, bey sq sh p 3] := by
      rw [List.getD_eq_getElem?_getD, beys, List.getElem?_map, e]; rfl
    rw [getD_of e, er]
    have bj : ∀ j : Nat, j < 4 → [bey sq sh p 0, bey sq sh p 1, bey sq sh p 2, bey sq sh p 3][j]? = some (bey sq sh p (j : Int)) := fun j hj => by
      match j, hj with
      | 0, _ => rfl
      | 1, _ => rfl
      | 2, _ => rfl
      | 3, _ => rfl
    unfold wallRow
    rw [List.mem_filterMap, List.mem_map]
    constructor
    · rintro ⟨j, hj, h⟩
      have hj := List.mem_range.mp hj
      rw [bj j hj] at h
      split at h
      · rename_i e1 e2
        cases h
        rw [Option.some.injEq] at e1
        refine ⟨nbr p (j : Int), List.mem_filter.mpr ⟨nbr_bes.mpr ⟨(j : Int), by omega, rfl⟩, ?_⟩, (wall_ends p j _ e2).symm⟩
        rw [Bool.or_eq_true, decide_eq_true_eq, decide_eq_true_eq]
        exact bey_none.mp e1
      · cases h
    · rintro ⟨q, hq, rfl⟩
      obtain ⟨h1, h2⟩ := List.mem_filter.mp hq
      rw [Bool.or_eq_true, decide_eq_true_eq, decide_eq_true_eq] at h2
      obtain ⟨s, hs, rfl⟩ := nbr_bes.mp h1
      obtain ⟨j, rfl⟩ : ∃ j : Nat, s = (j : Int) := ⟨s.toNat, by omega⟩
      have hj : j < 4 := by omega
      have ee : ∃ e, endsL[j]? = some e := ⟨_, List.getElem?_eq_getElem (show j < endsL.length from hj)⟩
      obtain ⟨e, ee⟩ := ee
      refine ⟨j, List.mem_range.mpr hj, ?_⟩
      rw [bj j hj, bey_none.mpr h2, ee]
      dsimp only
      rw [wall_ends p j e ee]
  constructor
  · rintro ⟨n, hn, h⟩
    have ln := List.mem_range.mp hn
    exact ⟨sq[n], List.getElem_mem ln, (row n _ (List.getElem?_eq_getElem ln)).mp h⟩
  · rintro ⟨p, hp, h⟩
    exact ⟨sq.idxOf p, List.mem_range.mpr (List.idxOf_lt_length_of_mem hp), (row _ p (idx_at hp)).mpr h⟩
end VL

set_option linter.all false
set_option maxRecDepth 100000
set_option maxHeartbeats 4000000
namespace VL
open PySem PySem.Spec PyProof.Rows L2 Nv
/-! # the squares' sides counted -/
theorem part3 {α : Type} (a b c : α → Bool) (h : ∀ x, (a x = true ∧ b x = false ∧ c x = false) ∨ (a x = false ∧ b x = true ∧ c x = false) ∨ (a x = false ∧ b x = false ∧ c x = true)) : ∀ l : List α, (l.filter a).length + (l.filter b).length + (l.filter c).length = l.length
  | [] => rfl
  | x :: l => by
    have ih := part3 a b c h l
    rcases h x with ⟨h1, h2, h3⟩ | ⟨h1, h2, h3⟩ | ⟨h1, h2, h3⟩
    all_goals simp only [List.filter_cons, h1, h2, h3, if_true, List.length_cons, Bool.false_eq_true, if_false]
    all_goals omega
theorem same_len {α : Type} [DecidableEq α] {l m : List α} (n1 : l.Nodup) (n2 : m.Nodup) (h : ∀ x, x ∈ l ↔ x ∈ m) : l.length = m.length := by
  have h1 := (sub_len n1 fun a ha => (h a).mp ha).1
  have h2 := (sub_len n2 fun a ha => (h a).mpr ha).1
  omega
def swp (s : Sd) : Sd := (s.2, s.1)
def allP (sq : List Pt) : List Sd := sq.flatMap fun p => (besL p).map fun q => (p, q)
theorem allP_len : ∀ sq : List Pt, (allP sq).length = 4 * sq.length
  | [] => rfl
  | p :: sq => by
    have ih := allP_len sq
    unfold allP at ih ⊢
    rw [List.flatMap_cons, List.length_append, ih, List.length_map, List.length_cons]
    simp only [besL, List.length_cons, List.length_nil]
    omega
theorem allP_mem {sq : List Pt} {s : Sd} : s ∈ allP sq ↔ s.1 ∈ sq ∧ s.2 ∈ besL s.1 := by
  obtain ⟨p, q⟩ := s
  unfold allP
  simp only [List.mem_flatMap, List.mem_map, Prod.mk.injEq]
  constructor
  · rintro ⟨p', hp, q', hq, rfl, rfl⟩; exact ⟨hp, hq⟩
  · rintro ⟨hp, hq⟩; exact ⟨p, hp, q, hq, rfl, rfl⟩
theorem besL_nodup (p : Pt) : (besL p).Nodup := by
  simp only [besL, List.nodup_cons, List.mem_cons, List.not_mem_nil, or_false, Prod.mk.injEq, not_or, List.nodup_nil, and_true, not_false_eq_true]
  omega
theorem allP_nodup {sq : List Pt} (nd : sq.Nodup) : (allP sq).Nodup := by
  unfold allP
  refine List.pairwise_flatMap.mpr ⟨fun p hp => List.pairwise_map.mpr ((besL_nodup p).imp fun {a b} ne e => ne (Prod.ext_iff.mp e).2), nd.imp fun {p q} ne x hx y hy e => ?_⟩
  obtain ⟨_, _, rfl⟩ := List.mem_map.mp hx
  obtain ⟨_, _, rfl⟩ := List.mem_map.mp hy
  exact ne (Prod.ext_iff.mp e).1
theorem bes_ne {p q : Pt} (h : q ∈ besL p) : ltP p q = true ∨ ltP q p = true := by
  rw [ltP_iff, ltP_iff]
  have := bes_iff.mp h
  omega
/-- each side of a list is met twice -/
theorem twice {sq : List Pt} {O D : List Sd} (nO : O.Nodup) (nD : D.Nodup) (sub : ∀ s ∈ D, ltP s.1 s.2 = true) (h : ∀ s, s ∈ O ↔ s ∈ D ∨ swp s ∈ D) : O.length = 2 * D.length := by
  have nS : (D.map swp).Nodup := List.pairwise_map.mpr (nD.imp fun {a b} ne e => ne (by
    have e := Prod.ext_iff.mp e
    exact Prod.ext e.2 e.1))
  have e := same_len nO (List.nodup_append.mpr ⟨nD, nS, fun a ha c hc z => by
    subst z
    obtain ⟨s, hs, rfl⟩ := List.mem_map.mp hc
    have h1 := sub _ ha
    have h2 := sub _ hs
    have h1 : ltP s.2 s.1 = true := h1
    rw [ordP.asym h2] at h1; cases h1⟩) fun s => by
    rw [h, List.mem_append]
    refine or_congr Iff.rfl ⟨fun z => List.mem_map.mpr ⟨_, z, rfl⟩, fun z => ?_⟩
    obtain ⟨u, hu, rfl⟩ := List.mem_map.mp z
    exact hu
  rw [e, List.length_append, List.length_map]
  omega
theorem ends_sym (p q : Pt) : lawEnds p q = lawEnds q p := by
  unfold lawEnds
  rw [Int.max_comm q.1 p.1, Int.max_comm q.2 p.2]
  by_cases h : p.1 = q.1
  · rw [if_pos h, if_pos h.symm]
  · rw [if_neg h, if_neg fun z => h z.symm]
theorem ends_inj {p q p' q' : Pt} (h : q ∈ besL p) (h' : q' ∈ besL p') (e : lawEnds p q = lawEnds p' q') : (p' = p ∧ q' = q) ∨ (p' = q ∧ q' = p) := by
  rw [bes_iff] at h h'
  obtain ⟨a, b⟩ := p
  obtain ⟨c, d⟩ := q
  obtain ⟨a', b'⟩ := p'
  obtain ⟨c', d'⟩ := q'
  unfold lawEnds at e
  simp only [Prod.mk.injEq] at e ⊢
  dsimp only at h h'
  split at e <;> split at e <;> simp only [Prod.mk.injEq] at e <;> omega
/-- 4 n = 2 open + ends + shut -/
theorem count_all {sq : List Pt} {sh m : List Sd} (g : GoodL sq sh) (am : AscS ltS m) (mm : ∀ a, a ∈ m ↔ a ∈ wallsL sq sh) : 4 * sq.length = 2 * (dueL sq sh).length + m.length + sh.length := by
  have nd := g.asc.nodup ordP
  have nA := allP_nodup nd
  have nh := g.ash.nodup ordS
  have nr := sidesRaw_nodup nd
  have ndue : (dueL sq sh).Nodup := (((srt_perm ltS _).nodup_iff).mpr nr).filter _
  have dmem : ∀ s, s ∈ dueL sq sh ↔ s ∈ sidesRaw sq ∧ s ∉ sh := fun s => by
    unfold dueL
    rw [List.mem_filter, srt_mem, decide_eq_true_eq]
  let a : Sd → Bool := fun s => decide (s.2 ∈ sq) && decide (mkS s.1 s.2 ∉ sh)
  let b : Sd → Bool := fun s => decide (s.2 ∈ sq) && decide (mkS s.1 s.2 ∈ sh)
  let c : Sd → Bool := fun s => decide (s.2 ∉ sq)
  have parts := part3 a b c (fun x => by
    by_cases h1 : x.2 ∈ sq <;> by_cases h2 : mkS x.1 x.2 ∈ sh <;> simp [a, b, c, h1, h2]) (allP sq)
  rw [allP_len] at parts
  have or2 : ∀ {s : Sd}, s.1 ∈ sq → s.2 ∈ sq → s.2 ∈ besL s.1 → (s ∈ sidesRaw sq ∧ mkS s.1 s.2 = s) ∨ (swp s ∈ sidesRaw sq ∧ mkS s.1 s.2 = swp s) := fun {s} h1 h2 h3 => by
    rcases bes_ne h3 with z | z
    · exact .inl ⟨side_iff.mpr ⟨h1, h2, h3, z⟩, mkS_lt z⟩
    · exact .inr ⟨side_iff.mpr ⟨h2, h1, bes_sym h3, z⟩, by rw [mkS_sym, mkS_lt z]; rfl⟩
  have unsw : ∀ {s : Sd}, s ∈ sidesRaw sq → mkS s.1 s.2 = s := fun {s} h => mkS_lt (side_iff.mp h).2.2.2
  have key : ∀ (D : List Sd) (f : Sd → Bool), D.Nodup → (∀ s ∈ D, s ∈ sidesRaw sq) → (∀ s, s.1 ∈ sq → s.2 ∈ besL s.1 → (f s = true ↔ s.2 ∈ sq ∧ mkS s.1 s.2 ∈ D)) → ((allP sq).filter f).length = 2 * D.length := fun D f nD sub hf =>
    twice (sq := sq) (nA.filter f) nD (fun s hs => (side_iff.mp (sub s hs)).2.2.2) fun s => by
      rw [List.mem_filter, allP_mem]
      constructor
      · rintro ⟨⟨h1, h2⟩, h3⟩
        obtain ⟨h4, h5⟩ := (hf s h1 h2).mp h3
        rcases or2 h1 h4 h2 with ⟨_, e⟩ | ⟨_, e⟩
        · exact .inl (e ▸ h5)
        · exact .inr (e ▸ h5)
      · rintro (h | h)
        · obtain ⟨h1, h2, h3, h4⟩ := side_iff.mp (sub s h)
          exact ⟨⟨h1, h3⟩, (hf s h1 h3).mpr ⟨h2, by rw [unsw (sub s h)]; exact h⟩⟩
        · obtain ⟨h1, h2, h3, h4⟩ := side_iff.mp (sub _ h)
          have h3' := bes_sym h3
          exact ⟨⟨h2, h3'⟩, (hf s h2 h3').mpr ⟨h1, by rw [mkS_sym]; rw [show mkS s.2 s.1 = swp s from unsw (sub _ h)]; exact h⟩⟩
  have lo := key (dueL sq sh) a ndue (fun s hs => ((dmem s).mp hs).1) fun s h1 h2 => by
    show (decide (s.2 ∈ sq) && decide (mkS s.1 s.2 ∉ sh)) = true ↔ _
    rw [Bool.and_eq_true, decide_eq_true_eq, decide_eq_true_eq]
    refine and_congr_right fun h3 => ?_
    rw [dmem]
    refine ⟨fun z => ⟨?_, z⟩, fun z => z.2⟩
    rcases or2 h1 h3 h2 with ⟨y, e⟩ | ⟨y, e⟩
    · rw [e]; exact y
    · rw [e]; exact y
  have ls := key sh b nh g.sub fun s h1 h2 => by
    show (decide (s.2 ∈ sq) && decide (mkS s.1 s.2 ∈ sh)) = true ↔ _
    rw [Bool.and_eq_true, decide_eq_true_eq, decide_eq_true_eq]
  -- the walls
  have cm : ∀ s, s ∈ (allP sq).filter c ↔ s.1 ∈ sq ∧ s.2 ∈ besL s.1 ∧ s.2 ∉ sq := fun s => by
    rw [List.mem_filter, allP_mem]
    show (_ ∧ decide (s.2 ∉ sq) = true) ↔ _
    rw [decide_eq_true_eq, and_assoc]
  have shm : ∀ s ∈ sh, s.1 ∈ sq ∧ s.2 ∈ sq ∧ s.2 ∈ besL s.1 ∧ ltP s.1 s.2 = true := fun s hs => side_iff.mp (g.sub s hs)
  have adj : ∀ s ∈ (allP sq).filter c ++ sh, s.1 ∈ sq ∧ s.2 ∈ besL s.1 := fun s hs => by
    rcases List.mem_append.mp hs with z | z
    · exact ⟨((cm s).mp z).1, ((cm s).mp z).2.1⟩
    · exact ⟨(shm s z).1, (shm s z).2.2.1⟩
  have nU : ((allP sq).filter c ++ sh).Nodup := List.nodup_append.mpr ⟨nA.filter c, nh, fun x hx y hy e => by
    subst e
    exact ((cm x).mp hx).2.2 (shm x hy).2.1⟩
  have nW : (((allP sq).filter c ++ sh).map fun s => lawEnds s.1 s.2).Nodup := by
    refine List.pairwise_map.mpr (nU.imp_of_mem fun {x y} hx hy ne e => ?_)
    rcases ends_inj (adj x hx).2 (adj y hy).2 e with ⟨e1, e2⟩ | ⟨e1, e2⟩
    · exact ne (Prod.ext e1.symm e2.symm)
    · rcases List.mem_append.mp hx with z | z
      · have := ((cm x).mp z).2.2
        exact this (e1 ▸ (adj y hy).1)
      · rcases List.mem_append.mp hy with w | w
        · have := ((cm y).mp w).2.2
          exact this (e2 ▸ (shm x z).1)
        · have h1 := (shm x z).2.2.2
          have h2 := (shm y w).2.2.2
          rw [e1, e2, ordP.asym h1] at h2
          cases h2
  have lw := same_len (am.nodup ordS) nW fun x => by
    rw [mm, List.mem_map]
    unfold wallsL
    rw [List.mem_flatMap]
    constructor
    · rintro ⟨p, hp, hx⟩
      obtain ⟨q, hq, rfl⟩ := List.mem_map.mp hx
      obtain ⟨h1, h2⟩ := List.mem_filter.mp hq
      rw [Bool.or_eq_true, decide_eq_true_eq, decide_eq_true_eq] at h2
      rcases h2 with h2 | h2
      · exact ⟨(p, q), List.mem_append_left _ ((cm _).mpr ⟨hp, h1, h2⟩), rfl⟩
      · refine ⟨mkS p q, List.mem_append_right _ h2, ?_⟩
        unfold mkS
        split
        · exact ends_sym q p
        · rfl
    · rintro ⟨s, hs, rfl⟩
      rcases List.mem_append.mp hs with z | z
      · obtain ⟨h1, h2, h3⟩ := (cm s).mp z
        exact ⟨s.1, h1, List.mem_map.mpr ⟨s.2, List.mem_filter.mpr ⟨h2, by rw [decide_eq_true h3]; rfl⟩, rfl⟩⟩
      · obtain ⟨h1, h2, h3, h4⟩ := shm s z
        exact ⟨s.1, h1, List.mem_map.mpr ⟨s.2, List.mem_filter.mpr ⟨h3, by rw [mkS_lt h4, decide_eq_true (show (s.1, s.2) ∈ sh from z), Bool.or_true]⟩, rfl⟩⟩
  rw [List.length_map, List.length_append] at lw
  omega
end VL

set_option linter.all false
set_option maxRecDepth 100000
set_option maxHeartbeats 4000000
namespace VL
open PySem PySem.Spec PyProof.Rows L2 Nv
/-! # rooms as texts -/
def smI (i : Int) : Prop := -199 ≤ i ∧ i ≤ 199
theorem smI_len {i : Int} (h : smI i) : (toString i : Str).length ≤ 13 ∧ i.natAbs.log2 < 1920 := by
  obtain ⟨h1, h2, h3⟩ := short_i i.natAbs (by have := h.1; have := h.2; omega)
  have e : i = (i.natAbs : Int) ∨ i = -(i.natAbs : Int) := by omega
  refine ⟨?_, by omega⟩
  show (PyData.shown (.int i)).length ≤ 13
  rcases e with e | e <;> rw [e]
  · exact h1
  · exact h2
theorem inB_sm {p : Pt} (h : inB p = true) : smI p.1 ∧ smI p.2 := by
  simp only [inB, Bool.and_eq_true, decide_eq_true_eq] at h
  unfold smI
  omega
theorem join_len (y : Str) : ∀ ys : List Str, (Txt.join y ys).length ≤ (ys.map (·.length)).sum + ys.length * y.length
  | [] => by rw [TL.join_eq]; exact Nat.zero_le _
  | [x] => by rw [TL.join_eq]; simp [Str.join]
  | x :: z :: r => by
    have ih := join_len y (z :: r)
    rw [TL.join_eq] at ih ⊢
    show (x ++ y ++ Str.join y (z :: r)).length ≤ _
    rw [Str.length_append, Str.length_append]
    simp only [List.map_cons, List.sum_cons, List.length_cons, Nat.add_mul] at ih ⊢
    omega
theorem sum_len {α : Type} {f : α → Str} {n : Nat} : ∀ {l : List α}, (∀ a ∈ l, (f a).length ≤ n) → ((l.map f).map (·.length)).sum ≤ n * l.length
  | [], _ => by simp
  | a :: l, h => by
    have ih := sum_len fun b hb => h b (List.mem_cons_of_mem _ hb)
    have h1 := h a List.mem_cons_self
    simp only [List.map_cons, List.sum_cons, List.length_cons, Nat.mul_add] at ih ⊢
    omega
def sqTxt (p : Pt) : Str := Str.empty ++ Str.ofString " / " ++ Str.ofString (toString p.1) ++ Str.ofString " " ++ Str.ofString (toString p.2)
def shTxt (s : Sd) : Str := Str.empty ++ Str.ofString " / shut " ++ Str.ofString (toString s.1.1) ++ Str.ofString " " ++ Str.ofString (toString s.1.2) ++ Str.ofString " " ++ Str.ofString (toString s.2.1) ++ Str.ofString " " ++ Str.ofString (toString s.2.2)
theorem lits : Str.empty.length = 0 ∧ (Str.ofString " / ").length = 3 ∧ (Str.ofString " / shut ").length = 8 ∧ (Str.ofString " ").length = 1 ∧ (Str.ofString "").length = 0 ∧ (Str.ofString "fine ").length = 5 := by decide +kernel
theorem sqTxt_len {p : Pt} (h : inB p = true) : (sqTxt p).length ≤ 40 := by
  obtain ⟨h1, h2⟩ := inB_sm h
  have a1 := (smI_len h1).1
  have a2 := (smI_len h2).1
  simp only [sqTxt, Str.length_append, lits]
  omega
theorem shTxt_len {s : Sd} (h : inB s.1 = true) (h' : inB s.2 = true) : (shTxt s).length ≤ 80 := by
  obtain ⟨h1, h2⟩ := inB_sm h
  obtain ⟨h3, h4⟩ := inB_sm h'
  have a1 := (smI_len h1).1
  have a2 := (smI_len h2).1
  have a3 := (smI_len h3).1
  have a4 := (smI_len h4).1
  simp only [shTxt, Str.length_append, lits]
  omega
def C_str (CR : Addr) : Con := fun _ t ds Pq _ => ∃ sq sh f, ds = [roomD CR sq sh (.int f)] ∧ sq.length ≤ 100 ∧ sh.length ≤ 100 ∧ (∀ p ∈ sq, inB p = true) ∧ (∀ s ∈ sh, inB s.1 = true ∧ inB s.2 = true) ∧ smI f ∧ ∀ y, Pq t (.str y)
theorem ok_P (p : Pt) : (encP p).ok = true := by simp [encP, D.ok, D.oks]
theorem ok_S (p : Sd) : (encS p).ok = true := by simp [encS, D.ok, D.oks, ok_P]
theorem ok_dSq (l : List Pt) : (D.lst (l.map encP)).ok = true := by
  simp only [D.ok, oks_all, List.all_map]
  exact List.all_eq_true.mpr fun p _ => ok_P p
theorem ok_dSh (l : List Sd) : (D.lst (l.map encS)).ok = true := by
  simp only [D.ok, oks_all, List.all_map]
  exact List.all_eq_true.mpr fun p _ => ok_S p
theorem fmB {α : Type} (c : α → Bool) (e : α → D) (l : List α) : (l.filterMap fun s => if c s = true then some (e s) else none) = (l.filter c).map e := by
  induction l with
  | nil => rfl
  | cons a r ih =>
    cases h : c a with
    | true => rw [List.filterMap_cons_some (b := e a) (by rw [h]; rfl), ih, List.filter_cons_of_pos h, List.map_cons]
    | false => rw [List.filterMap_cons_none (by rw [h]; rfl), ih, List.filter_cons_of_neg (by rw [h]; exact Bool.false_ne_true)]
def wc (sq : List Pt) (sh : List Sd) (p q : Pt) : Bool := decide (q ∉ sq) || decide (mkS p q ∈ sh)
def wallsAt (sq : List Pt) (sh : List Sd) (p : Pt) : List Sd := ((besL p).filter (wc sq sh p)).map (lawEnds p)
theorem wallsL_eq (sq : List Pt) (sh : List Sd) : wallsL sq sh = sq.flatMap (wallsAt sq sh) := rfl
theorem wallsAt_fm (sq : List Pt) (sh : List Sd) (p : Pt) : ((besL p).filterMap fun q => if wc sq sh p q = true then some (encS (lawEnds p q)) else none) = (wallsAt sq sh p).map encS := by
  rw [fmB (wc sq sh p) (fun q => encS (lawEnds p q))]
  unfold wallsAt
  rw [List.map_map]
  rfl
theorem wallsAt_len (sq : List Pt) (sh : List Sd) (p : Pt) : (wallsAt sq sh p).length ≤ 4 := by
  unfold wallsAt
  rw [List.length_map]
  exact Nat.le_trans (List.length_filter_le _ _) (by simp [besL])
theorem walls_succ {sq : List Pt} {i : Nat} {p : Pt} (e : sq[i]? = some p) (S : List Pt) (sh : List Sd) : (sq.take (i + 1)).flatMap (wallsAt S sh) = (sq.take i).flatMap (wallsAt S sh) ++ wallsAt S sh p := by
  rw [List.take_succ, e, List.flatMap_append]
  congr 1
  simp
theorem walls_len (sq S : List Pt) (sh : List Sd) : (sq.flatMap (wallsAt S sh)).length ≤ 4 * sq.length := by
  induction sq with
  | nil => simp
  | cons p r ih =>
    rw [List.flatMap_cons, List.length_append, List.length_cons]
    have := wallsAt_len S sh p
    omega
theorem sm_i {i : Int} (h : smI i) : (D.int i).sm = true := by
  simp only [D.sm, Bool.and_eq_true, decide_eq_true_eq]
  exact h
theorem sm_P {p : Pt} (h1 : smI p.1) (h2 : smI p.2) : (encP p).sm = true := by
  simp only [encP, D.sm, D.sms, Bool.and_true, Bool.and_eq_true, decide_eq_true_eq]
  exact ⟨h1, h2⟩
def smS (s : Sd) : Prop := (smI s.1.1 ∧ smI s.1.2) ∧ smI s.2.1 ∧ smI s.2.2
theorem sm_S {s : Sd} (h : smS s) : (encS s).sm = true := by
  simp only [encS, D.sm, D.sms, Bool.and_true, Bool.and_eq_true]
  exact ⟨sm_P h.1.1 h.1.2, sm_P h.2.1 h.2.2⟩
theorem sm_dSh {l : List Sd} (h : ∀ s ∈ l, smS s) : (dSh l).sm = true := by
  simp only [D.sm, sms_all, List.all_map]
  exact List.all_eq_true.mpr fun s hs => sm_S (h s hs)
theorem sz_S (s : Sd) : (encS s).sz = 7 := by simp [encS, encP, D.sz, D.szs]
theorem sz_l (l : List Sd) : D.szs (l.map encS) = 7 * l.length := by
  induction l with
  | nil => rfl
  | cons a r ih => simp only [List.map_cons, D.szs, sz_S, ih, List.length_cons]; omega
theorem two_shp (l m : List Sd) : D.shp 60 (.lst [dSh l, dSh m]) = true := by
  simp only [D.shp, D.shps, Bool.and_true, Bool.and_eq_true]
  exact ⟨shps_S 56 l, shps_S 56 m⟩
theorem two_sm {l m : List Sd} (h1 : ∀ s ∈ l, smS s) (h2 : ∀ s ∈ m, smS s) : (D.lst [dSh l, dSh m]).sm = true := by
  have a := sm_dSh h1
  have b := sm_dSh h2
  simp only [D.sm, D.sms, Bool.and_true, Bool.and_eq_true] at a b ⊢
  exact ⟨a, b⟩
theorem two_sz (l m : List Sd) : (D.lst [dSh l, dSh m]).sz = 7 * l.length + 7 * m.length + 3 := by
  simp only [D.sz, D.szs, sz_l]
  omega
theorem due_sm {sq : List Pt} {sh : List Sd} (h : ∀ p ∈ sq, inB p = true) : ∀ s ∈ dueL sq sh, smS s := fun s hs => by
  obtain ⟨h1, h2, _⟩ := side_iff.mp (srt_mem s |>.mp (List.mem_filter.mp hs).1)
  exact ⟨inB_sm (h _ h1), inB_sm (h _ h2)⟩
theorem wall_sm {sq : List Pt} {sh : List Sd} (h : ∀ p ∈ sq, inB p = true) : ∀ s ∈ wallsL sq sh, smS s := fun s hs => by
  unfold wallsL at hs
  obtain ⟨p, hp, hs⟩ := List.mem_flatMap.mp hs
  obtain ⟨q, hq, rfl⟩ := List.mem_map.mp hs
  have hb := bes_iff.mp (List.mem_filter.mp hq).1
  have hi := h p hp
  simp only [inB, Bool.and_eq_true, decide_eq_true_eq] at hi
  unfold lawEnds smS smI
  split <;> dsimp only <;> omega
end VL

set_option linter.all false
set_option maxRecDepth 100000
set_option maxHeartbeats 4000000
namespace K06
open PySem PySem.Spec PyProof.Rows L2 Nv VL
def topS (i : Nat) : Stmt := PySem.Challenge.pw_neverhit_k06_open_sides_and_walls.main.body.getD i (.Pass ⟨0, 0, 0, 0⟩)
structure Txt (K : PySem.W.Frag) (mg : Str → Option Value) (tk : Tok) (aST : Addr) : Prop where
  n_isinstance : mg "isinstance" = none
  n_int : mg "int" = none
  n_bool : mg "bool" = none
  n_list : mg "list" = none
  n_tuple : mg "tuple" = none
  n_len : mg "len" = none
  n_sorted : mg "sorted" = none
  n_range : mg "range" = none
  k_STEPS : KTree K mg "STEPS" aST dSTEPS
  c_FARTHEST_SQUARE : mg "FARTHEST_SQUARE" = some (.int 99 tk)
section
variable {P : Program} {w : World} {K : PySem.W.Frag} {mg : Str → Option Value} {base : Heap} {tk : Tok} {aST : Addr}
abbrev s_is_integer : Stmt := topS 1
theorem sc_is_integer : FnScope ["value"] ["value"] (defScope s_is_integer) := ⟨rfl, rfl, rfl, by decide +kernel, rfl, by decide +kernel, by decide +kernel⟩
abbrev s_is_within : Stmt := topS 2
theorem sc_is_within : FnScope ["value", "least", "most"] ["value", "least", "most"] (defScope s_is_within) := ⟨rfl, rfl, rfl, by decide +kernel, rfl, by decide +kernel, by decide +kernel⟩
abbrev s_is_row : Stmt := topS 3
theorem sc_is_row : FnScope ["value"] ["value"] (defScope s_is_row) := ⟨rfl, rfl, rfl, by decide +kernel, rfl, by decide +kernel, by decide +kernel⟩
abbrev s_is_point : Stmt := topS 4
theorem sc_is_point : FnScope ["value"] ["value"] (defScope s_is_point) := ⟨rfl, rfl, rfl, by decide +kernel, rfl, by decide +kernel, by decide +kernel⟩
abbrev s_is_square : Stmt := topS 22
theorem sc_is_square : FnScope ["value", "i", "j"] ["value"] (defScope s_is_square) := ⟨rfl, rfl, rfl, by decide +kernel, rfl, by decide +kernel, by decide +kernel⟩
theorem ok_is_integer {f : Addr} {fd : FuncData} (F : Fun K "is_integer" "is_integer" s_is_integer f fd) (T : Txt K mg tk aST) : FnOk P w K mg base (L2.CX P w) 1 f fd ["value"] (spV K CisI) := by
  refine ok1 F sc_is_integer (body := fun c pe cdv A outer s H E hK tk hx hr => ⟨_, (vs_one (vs_ret (v_and (v_callB (b_isi hK) (c_isi "int") (by rfl) T.n_isinstance (by decide +kernel) (va_cons (v_var (pv 0)) (va_cons (v_ty (pe_bltn (v := .ty "int") (by rfl) T.n_int (by decide +kernel) rfl)) va_nil))) (v_one (v_not (v_callB (b_isi hK) (c_isi "bool") (by rfl) T.n_isinstance (by decide +kernel) (va_cons (v_var (pv 0)) (va_cons (v_ty (pe_bltn (v := .ty "bool") (by rfl) T.n_bool (by decide +kernel) rfl)) va_nil)))))))), fun t d Pq ok q => ?_⟩)
  cases d <;> first | (simp only [uSeq, later_cons, uNext, uRet, uRetN, uIf, uSet, uSetO, uAsg, uFrz, uFrz1, frzAll, frz1, retE, uVar, uK, u2, wI, cYes, wEq, wIsN, wIx, wMem, uAnd, uOr, uNot, uB, uTAnd, uTOr, uTNot, uRowT, uIte, uChain, uNil, uCons, uLst, uTup, uFld, uSelf, uC, wLen, wTupOf, wI1, wI2, wInt, wBls, wInts, wIsi1, wIsiC, uIsRow, uCall, uCallN, uT, uTs, rowD_lst, rowD_tup, rowD_int, isBk, uRaise, uPar, uParOO, uApp, uExt, uPop, uAug, uNeg, uTIx, wCat, frs0, List.map_cons, List.map_nil, List.getElem?_cons_zero, List.getElem?_cons_succ, List.set_cons_zero, List.set_cons_succ, List.length_cons, List.length_nil, List.nil_append, List.cons_append, Nat.reduceAdd, Nat.reduceSub, List.replicate_zero, List.replicate_succ, isNonD, isFlat, xor_f, xor_t, Bool.true_or, Bool.false_or, Bool.and_true, Bool.true_and, Bool.or_true, Bool.or_false, true_and, and_true, forall_const, true_implies, false_implies, implies_true, Bool.false_eq_true, reduceCtorEq, Option.some.injEq, exists_eq_left, exists_eq_left', kit_tab, exists_and_left, Option.isSome_some, Option.isSome_none, con1, con2, con3, con4, con1E, con2E, con3E, endE, CisI, CisW, CisR, CisP, CisS, atI0, atI1, uSortL, uSortSet, uLenSet, atI2, atI3, uiRow, uiVar, uiRng1, uiRng2, uLc, noOi_fr, noOi_un, noOi_ow, uIxO, List.all_cons, List.all_nil, wipeD, uExpr, uAttr, putD, uMake, uiEnum, initE, iNx, Sl.oi.injEq, and_imp, forall_eq', forall_apply_eq_imp_iff, uM0, uM1, uM2, uMp1, uMp2, eqv_lnil, shp_lnil, shp_ints, retM, uSl, uoN, uoS, wRep, wLtP, uJoin, wRepr, uKwC, wStrO, isSeqD]; exact q) | (simp only [okD, D.ok, Bool.false_eq_true] at ok)
theorem ok_is_row {f : Addr} {fd : FuncData} (F : Fun K "is_row" "is_row" s_is_row f fd) (T : Txt K mg tk aST) : FnOk P w K mg base (L2.CX P w) 1 f fd ["value"] (spV K CisR) := by
  refine ok1 F sc_is_row (body := fun c pe cdv A outer s H E hK tk hx hr => ⟨_, (vs_one (vs_ret (v_isRow hK (by rfl) T.n_isinstance (by decide +kernel) (v_var (pv 0)) (pe_bltn (v := .ty "list") (by rfl) T.n_list (by decide +kernel) rfl) (pe_bltn (v := .ty "tuple") (by rfl) T.n_tuple (by decide +kernel) rfl)))), fun t d Pq ok q => ?_⟩)
  cases d <;> first | (simp only [uSeq, later_cons, uNext, uRet, uRetN, uIf, uSet, uSetO, uAsg, uFrz, uFrz1, frzAll, frz1, retE, uVar, uK, u2, wI, cYes, wEq, wIsN, wIx, wMem, uAnd, uOr, uNot, uB, uTAnd, uTOr, uTNot, uRowT, uIte, uChain, uNil, uCons, uLst, uTup, uFld, uSelf, uC, wLen, wTupOf, wI1, wI2, wInt, wBls, wInts, wIsi1, wIsiC, uIsRow, uCall, uCallN, uT, uTs, rowD_lst, rowD_tup, rowD_int, isBk, uRaise, uPar, uParOO, uApp, uExt, uPop, uAug, uNeg, uTIx, wCat, frs0, List.map_cons, List.map_nil, List.getElem?_cons_zero, List.getElem?_cons_succ, List.set_cons_zero, List.set_cons_succ, List.length_cons, List.length_nil, List.nil_append, List.cons_append, Nat.reduceAdd, Nat.reduceSub, List.replicate_zero, List.replicate_succ, isNonD, isFlat, xor_f, xor_t, Bool.true_or, Bool.false_or, Bool.and_true, Bool.true_and, Bool.or_true, Bool.or_false, true_and, and_true, forall_const, true_implies, false_implies, implies_true, Bool.false_eq_true, reduceCtorEq, Option.some.injEq, exists_eq_left, exists_eq_left', kit_tab, exists_and_left, Option.isSome_some, Option.isSome_none, con1, con2, con3, con4, con1E, con2E, con3E, endE, CisI, CisW, CisR, CisP, CisS, atI0, atI1, uSortL, uSortSet, uLenSet, atI2, atI3, uiRow, uiVar, uiRng1, uiRng2, uLc, noOi_fr, noOi_un, noOi_ow, uIxO, List.all_cons, List.all_nil, wipeD, uExpr, uAttr, putD, uMake, uiEnum, initE, iNx, Sl.oi.injEq, and_imp, forall_eq', forall_apply_eq_imp_iff, uM0, uM1, uM2, uMp1, uMp2, eqv_lnil, shp_lnil, shp_ints, retM, uSl, uoN, uoS, wRep, wLtP, uJoin, wRepr, uKwC, wStrO, isSeqD]; exact q) | (simp only [okD, D.ok, Bool.false_eq_true] at ok)
variable {fI fW fR fP : Addr} {dI dW dR dP : FuncData}
theorem ok_is_within (D_is_integer : Df K mg "is_integer" s_is_integer ["value"] fI dI) (F : Fun K "is_within" "is_within" s_is_within fW dW) (T : Txt K mg tk aST) : FnOk P w K mg base (L2.CX P w) 2 fW dW ["value", "least", "most"] (spV K CisW) := by
  have G_is_integer : FnOk P w K mg base (L2.CX P w) 1 fI dI ["value"] (spV K CisI) := ok_is_integer D_is_integer.F T
  refine ok3 F sc_is_within (body := fun c pe cdv A outer s H E hK tk hx hr => ⟨_, (vs_cons (vs_if (vt_not (vt_val (v_call hK G_is_integer (hr.mono (by decide)) (by rfl) D_is_integer.m D_is_integer.F.kp D_is_integer.b hx (va_cons (v_var (pv 0)) va_nil))))
(vs_one (vs_ret (v_bl pe_bl)))
vs_nil)
(vs_one (vs_ret (v_and (v_or (v_cmp op_isN w_isN (v_var (pv 1)) (v_non pe_non) (nomark _)) (v_one (v_cmp op_ge w_ge (v_var (pv 0)) (v_var (pv 1)) (nomark _)))) (v_one (v_or (v_cmp op_isN w_isN (v_var (pv 2)) (v_non pe_non) (nomark _)) (v_one (v_cmp op_le w_le (v_var (pv 0)) (v_var (pv 2)) (nomark _))))))))), fun t d l h Pq ok q => ?_⟩)
  obtain ⟨ok, o1, o2⟩ := ok
  simp only [uSeq, later_cons, uNext, uRet, uRetN, uIf, uSet, uSetO, uAsg, uFrz, uFrz1, frzAll, frz1, retE, uVar, uK, u2, wI, cYes, wEq, wIsN, wIx, wMem, uAnd, uOr, uNot, uB, uTAnd, uTOr, uTNot, uRowT, uIte, uChain, uNil, uCons, uLst, uTup, uFld, uSelf, uC, wLen, wTupOf, wI1, wI2, wInt, wBls, wInts, wIsi1, wIsiC, uIsRow, uCall, uCallN, uT, uTs, rowD_lst, rowD_tup, rowD_int, isBk, uRaise, uPar, uParOO, uApp, uExt, uPop, uAug, uNeg, uTIx, wCat, frs0, List.map_cons, List.map_nil, List.getElem?_cons_zero, List.getElem?_cons_succ, List.set_cons_zero, List.set_cons_succ, List.length_cons, List.length_nil, List.nil_append, List.cons_append, Nat.reduceAdd, Nat.reduceSub, List.replicate_zero, List.replicate_succ, isNonD, isFlat, xor_f, xor_t, Bool.true_or, Bool.false_or, Bool.and_true, Bool.true_and, Bool.or_true, Bool.or_false, true_and, and_true, forall_const, true_implies, false_implies, implies_true, Bool.false_eq_true, reduceCtorEq, Option.some.injEq, exists_eq_left, exists_eq_left', kit_tab, exists_and_left, Option.isSome_some, Option.isSome_none, con1, con2, con3, con4, con1E, con2E, con3E, endE, CisI, CisW, CisR, CisP, CisS, atI0, atI1, uSortL, uSortSet, uLenSet, atI2, atI3, uiRow, uiVar, uiRng1, uiRng2, uLc, noOi_fr, noOi_un, noOi_ow, uIxO, List.all_cons, List.all_nil, wipeD, uExpr, uAttr, putD, uMake, uiEnum, initE, iNx, Sl.oi.injEq, and_imp, forall_eq', forall_apply_eq_imp_iff, uM0, uM1, uM2, uMp1, uMp2, eqv_lnil, shp_lnil, shp_ints, retM, uSl, uoN, uoS, wRep, wLtP, uJoin, wRepr, uKwC, wStrO, isSeqD]
  refine ⟨ok, fun z => ?_, fun z => ?_⟩
  · have e : withinD d l h = false := by
      cases d with
      | int v => simp [isJ] at z
      | _ => unfold withinD numIn; split <;> rfl
    rw [e] at q
    exact q
  · cases d with
    | int v =>
      cases l <;> simp only [optI, Option.isSome_none, Option.isSome_some, Bool.false_eq_true] at o1
      all_goals cases h <;> simp only [optI, Option.isSome_none, Option.isSome_some, Bool.false_eq_true] at o2
      all_goals simp only [withinD, optI, numIn, geB, leB, Bool.true_and, Bool.and_true] at q
      all_goals simp only [uSeq, later_cons, uNext, uRet, uRetN, uIf, uSet, uSetO, uAsg, uFrz, uFrz1, frzAll, frz1, retE, uVar, uK, u2, wI, cYes, wEq, wIsN, wIx, wMem, uAnd, uOr, uNot, uB, uTAnd, uTOr, uTNot, uRowT, uIte, uChain, uNil, uCons, uLst, uTup, uFld, uSelf, uC, wLen, wTupOf, wI1, wI2, wInt, wBls, wInts, wIsi1, wIsiC, uIsRow, uCall, uCallN, uT, uTs, rowD_lst, rowD_tup, rowD_int, isBk, uRaise, uPar, uParOO, uApp, uExt, uPop, uAug, uNeg, uTIx, wCat, frs0, List.map_cons, List.map_nil, List.getElem?_cons_zero, List.getElem?_cons_succ, List.set_cons_zero, List.set_cons_succ, List.length_cons, List.length_nil, List.nil_append, List.cons_append, Nat.reduceAdd, Nat.reduceSub, List.replicate_zero, List.replicate_succ, isNonD, isFlat, xor_f, xor_t, Bool.true_or, Bool.false_or, Bool.and_true, Bool.true_and, Bool.or_true, Bool.or_false, true_and, and_true, forall_const, true_implies, false_implies, implies_true, Bool.false_eq_true, reduceCtorEq, Option.some.injEq, exists_eq_left, exists_eq_left', kit_tab, exists_and_left, Option.isSome_some, Option.isSome_none, con1, con2, con3, con4, con1E, con2E, con3E, endE, CisI, CisW, CisR, CisP, CisS, atI0, atI1, uSortL, uSortSet, uLenSet, atI2, atI3, uiRow, uiVar, uiRng1, uiRng2, uLc, noOi_fr, noOi_un, noOi_ow, uIxO, List.all_cons, List.all_nil, wipeD, uExpr, uAttr, putD, uMake, uiEnum, initE, iNx, Sl.oi.injEq, and_imp, forall_eq', forall_apply_eq_imp_iff, uM0, uM1, uM2, uMp1, uMp2, eqv_lnil, shp_lnil, shp_ints, retM, uSl, uoN, uoS, wRep, wLtP, uJoin, wRepr, uKwC, wStrO, isSeqD, Bool.true_eq_false, decide_eq_true_eq, decide_eq_false_iff_not]
      · exact q
      · exact q
      · exact ⟨fun y => by simpa [y] using q, fun y => by simpa [y] using q⟩
      · exact ⟨fun y => by simpa [y] using q, fun y => by simpa [y] using q⟩
    | _ => simp [isJ] at z
variable {fS : Addr} {dS : FuncData}
theorem ok_is_point (D_is_integer : Df K mg "is_integer" s_is_integer ["value"] fI dI) (D_is_row : Df K mg "is_row" s_is_row ["value"] fR dR) (F : Fun K "is_point" "is_point" s_is_point fP dP) (T : Txt K mg tk aST) : FnOk P w K mg base (L2.CX P w) 2 fP dP ["value"] (spV K CisP) := by
  have G_is_integer : FnOk P w K mg base (L2.CX P w) 1 fI dI ["value"] (spV K CisI) := ok_is_integer D_is_integer.F T
  have G_is_row : FnOk P w K mg base (L2.CX P w) 1 fR dR ["value"] (spV K CisR) := ok_is_row D_is_row.F T
  refine ok1 F sc_is_point (body := fun c pe cdv A outer s H E hK tk hx hr => ⟨_, (vs_one (vs_ret (v_and (v_call hK G_is_row (hr.mono (by decide)) (by rfl) D_is_row.m D_is_row.F.kp D_is_row.b hx (va_cons (v_var (pv 0)) va_nil)) (v_and (v_cmp (o_eq hK hr.units) w_eq (v_callB (b_len hK) c_len (by rfl) T.n_len (by decide +kernel) (va_cons (v_var (pv 0)) va_nil)) (v_int pe_int) (nomark _)) (v_and (v_call hK G_is_integer (hr.mono (by decide)) (by rfl) D_is_integer.m D_is_integer.F.kp D_is_integer.b hx (va_cons (v_ix (o_ix hK) w_ix (v_var (pv 0)) (v_int pe_int) (fun _ _ => rfl)) va_nil)) (v_one (v_call hK G_is_integer (hr.mono (by decide)) (by rfl) D_is_integer.m D_is_integer.F.kp D_is_integer.b hx (va_cons (v_ix (o_ix hK) w_ix (v_var (pv 0)) (v_int pe_int) (fun _ _ => rfl)) va_nil)))))))), fun t d Pq ok q => ?_⟩)
  simp only [uSeq, later_cons, uNext, uRet, uRetN, uIf, uSet, uSetO, uAsg, uFrz, uFrz1, frzAll, frz1, retE, uVar, uK, u2, wI, cYes, wEq, wIsN, wIx, wMem, uAnd, uOr, uNot, uB, uTAnd, uTOr, uTNot, uRowT, uIte, uChain, uNil, uCons, uLst, uTup, uFld, uSelf, uC, wLen, wTupOf, wI1, wI2, wInt, wBls, wInts, wIsi1, wIsiC, uIsRow, uCall, uCallN, uT, uTs, rowD_lst, rowD_tup, rowD_int, isBk, uRaise, uPar, uParOO, uApp, uExt, uPop, uAug, uNeg, uTIx, wCat, frs0, List.map_cons, List.map_nil, List.getElem?_cons_zero, List.getElem?_cons_succ, List.set_cons_zero, List.set_cons_succ, List.length_cons, List.length_nil, List.nil_append, List.cons_append, Nat.reduceAdd, Nat.reduceSub, List.replicate_zero, List.replicate_succ, isNonD, isFlat, xor_f, xor_t, Bool.true_or, Bool.false_or, Bool.and_true, Bool.true_and, Bool.or_true, Bool.or_false, true_and, and_true, forall_const, true_implies, false_implies, implies_true, Bool.false_eq_true, reduceCtorEq, Option.some.injEq, exists_eq_left, exists_eq_left', kit_tab, exists_and_left, Option.isSome_some, Option.isSome_none, con1, con2, con3, con4, con1E, con2E, con3E, endE, CisI, CisW, CisR, CisP, CisS, atI0, atI1, uSortL, uSortSet, uLenSet, atI2, atI3, uiRow, uiVar, uiRng1, uiRng2, uLc, noOi_fr, noOi_un, noOi_ow, uIxO, List.all_cons, List.all_nil, wipeD, uExpr, uAttr, putD, uMake, uiEnum, initE, iNx, Sl.oi.injEq, and_imp, forall_eq', forall_apply_eq_imp_iff, uM0, uM1, uM2, uMp1, uMp2, eqv_lnil, shp_lnil, shp_ints, retM, uSl, uoN, uoS, wRep, wLtP, uJoin, wRepr, uKwC, wStrO, isSeqD, shp_int, eqv_int]
  cases e : rowD d with
  | none =>
    simp only [uSeq, later_cons, uNext, uRet, uRetN, uIf, uSet, uSetO, uAsg, uFrz, uFrz1, frzAll, frz1, retE, uVar, uK, u2, wI, cYes, wEq, wIsN, wIx, wMem, uAnd, uOr, uNot, uB, uTAnd, uTOr, uTNot, uRowT, uIte, uChain, uNil, uCons, uLst, uTup, uFld, uSelf, uC, wLen, wTupOf, wI1, wI2, wInt, wBls, wInts, wIsi1, wIsiC, uIsRow, uCall, uCallN, uT, uTs, rowD_lst, rowD_tup, rowD_int, isBk, uRaise, uPar, uParOO, uApp, uExt, uPop, uAug, uNeg, uTIx, wCat, frs0, List.map_cons, List.map_nil, List.getElem?_cons_zero, List.getElem?_cons_succ, List.set_cons_zero, List.set_cons_succ, List.length_cons, List.length_nil, List.nil_append, List.cons_append, Nat.reduceAdd, Nat.reduceSub, List.replicate_zero, List.replicate_succ, isNonD, isFlat, xor_f, xor_t, Bool.true_or, Bool.false_or, Bool.and_true, Bool.true_and, Bool.or_true, Bool.or_false, true_and, and_true, forall_const, true_implies, false_implies, implies_true, Bool.false_eq_true, reduceCtorEq, Option.some.injEq, exists_eq_left, exists_eq_left', kit_tab, exists_and_left, Option.isSome_some, Option.isSome_none, con1, con2, con3, con4, con1E, con2E, con3E, endE, CisI, CisW, CisR, CisP, CisS, atI0, atI1, uSortL, uSortSet, uLenSet, atI2, atI3, uiRow, uiVar, uiRng1, uiRng2, uLc, noOi_fr, noOi_un, noOi_ow, uIxO, List.all_cons, List.all_nil, wipeD, uExpr, uAttr, putD, uMake, uiEnum, initE, iNx, Sl.oi.injEq, and_imp, forall_eq', forall_apply_eq_imp_iff, uM0, uM1, uM2, uMp1, uMp2, eqv_lnil, shp_lnil, shp_ints, retM, uSl, uoN, uoS, wRep, wLtP, uJoin, wRepr, uKwC, wStrO, isSeqD, isPt, e] at q ⊢
    exact ⟨ok, q⟩
  | some ds =>
    have oka := ok_row ok e
    simp only [uSeq, later_cons, uNext, uRet, uRetN, uIf, uSet, uSetO, uAsg, uFrz, uFrz1, frzAll, frz1, retE, uVar, uK, u2, wI, cYes, wEq, wIsN, wIx, wMem, uAnd, uOr, uNot, uB, uTAnd, uTOr, uTNot, uRowT, uIte, uChain, uNil, uCons, uLst, uTup, uFld, uSelf, uC, wLen, wTupOf, wI1, wI2, wInt, wBls, wInts, wIsi1, wIsiC, uIsRow, uCall, uCallN, uT, uTs, rowD_lst, rowD_tup, rowD_int, isBk, uRaise, uPar, uParOO, uApp, uExt, uPop, uAug, uNeg, uTIx, wCat, frs0, List.map_cons, List.map_nil, List.getElem?_cons_zero, List.getElem?_cons_succ, List.set_cons_zero, List.set_cons_succ, List.length_cons, List.length_nil, List.nil_append, List.cons_append, Nat.reduceAdd, Nat.reduceSub, List.replicate_zero, List.replicate_succ, isNonD, isFlat, xor_f, xor_t, Bool.true_or, Bool.false_or, Bool.and_true, Bool.true_and, Bool.or_true, Bool.or_false, true_and, and_true, forall_const, true_implies, false_implies, implies_true, Bool.false_eq_true, reduceCtorEq, Option.some.injEq, exists_eq_left, exists_eq_left', kit_tab, exists_and_left, Option.isSome_some, Option.isSome_none, con1, con2, con3, con4, con1E, con2E, con3E, endE, CisI, CisW, CisR, CisP, CisS, atI0, atI1, uSortL, uSortSet, uLenSet, atI2, atI3, uiRow, uiVar, uiRng1, uiRng2, uLc, noOi_fr, noOi_un, noOi_ow, uIxO, List.all_cons, List.all_nil, wipeD, uExpr, uAttr, putD, uMake, uiEnum, initE, iNx, Sl.oi.injEq, and_imp, forall_eq', forall_apply_eq_imp_iff, uM0, uM1, uM2, uMp1, uMp2, eqv_lnil, shp_lnil, shp_ints, retM, uSl, uoN, uoS, wRep, wLtP, uJoin, wRepr, uKwC, wStrO, isSeqD, isPt, e, Bool.true_eq_false] at q ⊢
    refine ⟨ok, ?_⟩
    match ds with
    | [] => simpa using q
    | [x] => simpa using q
    | [x, y] =>
      simp only [List.all_cons, List.all_nil, Bool.and_true, Bool.and_eq_true] at oka
      simp only [uSeq, later_cons, uNext, uRet, uRetN, uIf, uSet, uSetO, uAsg, uFrz, uFrz1, frzAll, frz1, retE, uVar, uK, u2, wI, cYes, wEq, wIsN, wIx, wMem, uAnd, uOr, uNot, uB, uTAnd, uTOr, uTNot, uRowT, uIte, uChain, uNil, uCons, uLst, uTup, uFld, uSelf, uC, wLen, wTupOf, wI1, wI2, wInt, wBls, wInts, wIsi1, wIsiC, uIsRow, uCall, uCallN, uT, uTs, rowD_lst, rowD_tup, rowD_int, isBk, uRaise, uPar, uParOO, uApp, uExt, uPop, uAug, uNeg, uTIx, wCat, frs0, List.map_cons, List.map_nil, List.getElem?_cons_zero, List.getElem?_cons_succ, List.set_cons_zero, List.set_cons_succ, List.length_cons, List.length_nil, List.nil_append, List.cons_append, Nat.reduceAdd, Nat.reduceSub, List.replicate_zero, List.replicate_succ, isNonD, isFlat, xor_f, xor_t, Bool.true_or, Bool.false_or, Bool.and_true, Bool.true_and, Bool.or_true, Bool.or_false, true_and, and_true, forall_const, true_implies, false_implies, implies_true, Bool.false_eq_true, reduceCtorEq, Option.some.injEq, exists_eq_left, exists_eq_left', kit_tab, exists_and_left, Option.isSome_some, Option.isSome_none, con1, con2, con3, con4, con1E, con2E, con3E, endE, CisI, CisW, CisR, CisP, CisS, atI0, atI1, uSortL, uSortSet, uLenSet, atI2, atI3, uiRow, uiVar, uiRng1, uiRng2, uLc, noOi_fr, noOi_un, noOi_ow, uIxO, List.all_cons, List.all_nil, wipeD, uExpr, uAttr, putD, uMake, uiEnum, initE, iNx, Sl.oi.injEq, and_imp, forall_eq', forall_apply_eq_imp_iff, uM0, uM1, uM2, uMp1, uMp2, eqv_lnil, shp_lnil, shp_ints, retM, uSl, uoN, uoS, wRep, wLtP, uJoin, wRepr, uKwC, wStrO, isSeqD, okD]
      refine ⟨fun _ => ⟨oka.1, fun z => ⟨oka.2, by simpa [z] using q⟩, fun z => by simpa [z] using q⟩, fun z => absurd z (by decide)⟩
    | x :: y :: z :: r =>
      have ne : ((((x :: y :: z :: r).length : Nat) : Int) == 2) = false := by
        simp only [List.length_cons]
        exact beq_false_of_ne (by omega)
      rw [ne]
      exact ⟨fun h => absurd h Bool.false_ne_true, fun _ => q⟩
theorem ok_is_square (D_is_integer : Df K mg "is_integer" s_is_integer ["value"] fI dI) (D_is_row : Df K mg "is_row" s_is_row ["value"] fR dR) (D_is_within : Df K mg "is_within" s_is_within ["value", "least", "most"] fW dW) (D_is_point : Df K mg "is_point" s_is_point ["value"] fP dP) (F : Fun K "is_square" "is_square" s_is_square fS dS) (T : Txt K mg tk aST) : FnOk P w K mg base (L2.CX P w) 3 fS dS ["value"] (spV K CisS) := by
  have G_is_within : FnOk P w K mg base (L2.CX P w) 2 fW dW ["value", "least", "most"] (spV K CisW) := ok_is_within D_is_integer D_is_within.F T
  have G_is_point : FnOk P w K mg base (L2.CX P w) 2 fP dP ["value"] (spV K CisP) := ok_is_point D_is_integer D_is_row D_is_point.F T
  refine ok1 F sc_is_square (body := fun c pe cdv A outer s H E hK tk hx hr => ⟨_, (vs_cons (vs_if (vt_not (vt_val (v_call hK G_is_point (hr.mono (by decide)) (by rfl) D_is_point.m D_is_point.F.kp D_is_point.b hx (va_cons (v_var (pv 0)) va_nil))))
(vs_one (vs_ret (v_bl pe_bl)))
vs_nil)
(vs_cons (vs_asg (T := (.tp [(.nm 1), (.nm 2)])) hK (v_var (pv 0)) (pg_sq (by rfl) (pgs_cons (pg_name (i := 1) sc_is_square.nd rfl (by first | exact Or.inl rfl | exact Or.inr rfl)) (pgs_cons (pg_name (i := 2) sc_is_square.nd rfl (by first | exact Or.inl rfl | exact Or.inr rfl)) pgs_nil))))
(vs_one (vs_ret (v_and (v_call hK G_is_within (hr.mono (by decide)) (by rfl) D_is_within.m D_is_within.F.kp D_is_within.b hx (va_cons (v_var (pv 1)) (va_cons (v_neg (v_int (pe_glob (v := .int _) (by rfl) T.c_FARTHEST_SQUARE ⟨_, rfl⟩))) (va_cons (v_int (pe_glob (v := .int _) (by rfl) T.c_FARTHEST_SQUARE ⟨_, rfl⟩)) va_nil)))) (v_one (v_call hK G_is_within (hr.mono (by decide)) (by rfl) D_is_within.m D_is_within.F.kp D_is_within.b hx (va_cons (v_var (pv 2)) (va_cons (v_neg (v_int (pe_glob (v := .int _) (by rfl) T.c_FARTHEST_SQUARE ⟨_, rfl⟩))) (va_cons (v_int (pe_glob (v := .int _) (by rfl) T.c_FARTHEST_SQUARE ⟨_, rfl⟩)) va_nil)))))))))), fun t d Pq ok q => ?_⟩)
  cases z : isPt d with
  | false =>
    have e : isSq d = false := by
      unfold isSq
      split
      · rename_i x y e
        unfold isPt at z
        rw [e] at z
        cases x <;> cases y <;> first | (simp [isJ] at z; done) | simp [numIn]
      · rfl
    rw [e] at q
    simp only [uSeq, later_cons, uNext, uRet, uRetN, uIf, uSet, uSetO, uAsg, uFrz, uFrz1, frzAll, frz1, retE, uVar, uK, u2, wI, cYes, wEq, wIsN, wIx, wMem, uAnd, uOr, uNot, uB, uTAnd, uTOr, uTNot, uRowT, uIte, uChain, uNil, uCons, uLst, uTup, uFld, uSelf, uC, wLen, wTupOf, wI1, wI2, wInt, wBls, wInts, wIsi1, wIsiC, uIsRow, uCall, uCallN, uT, uTs, rowD_lst, rowD_tup, rowD_int, isBk, uRaise, uPar, uParOO, uApp, uExt, uPop, uAug, uNeg, uTIx, wCat, frs0, List.map_cons, List.map_nil, List.getElem?_cons_zero, List.getElem?_cons_succ, List.set_cons_zero, List.set_cons_succ, List.length_cons, List.length_nil, List.nil_append, List.cons_append, Nat.reduceAdd, Nat.reduceSub, List.replicate_zero, List.replicate_succ, isNonD, isFlat, xor_f, xor_t, Bool.true_or, Bool.false_or, Bool.and_true, Bool.true_and, Bool.or_true, Bool.or_false, true_and, and_true, forall_const, true_implies, false_implies, implies_true, Bool.false_eq_true, reduceCtorEq, Option.some.injEq, exists_eq_left, exists_eq_left', kit_tab, exists_and_left, Option.isSome_some, Option.isSome_none, con1, con2, con3, con4, con1E, con2E, con3E, endE, CisI, CisW, CisR, CisP, CisS, atI0, atI1, uSortL, uSortSet, uLenSet, atI2, atI3, uiRow, uiVar, uiRng1, uiRng2, uLc, noOi_fr, noOi_un, noOi_ow, uIxO, List.all_cons, List.all_nil, wipeD, uExpr, uAttr, putD, uMake, uiEnum, initE, iNx, Sl.oi.injEq, and_imp, forall_eq', forall_apply_eq_imp_iff, uM0, uM1, uM2, uMp1, uMp2, eqv_lnil, shp_lnil, shp_ints, retM, uSl, uoN, uoS, wRep, wLtP, uJoin, wRepr, uKwC, wStrO, isSeqD, z, Bool.not_false, Bool.true_eq_false]
    exact ⟨ok, q⟩
  | true =>
    obtain ⟨i, j, e⟩ := isPt_eq z
    simp only [isSq, e] at q
    simp only [uSeq, later_cons, uNext, uRet, uRetN, uIf, uSet, uSetO, uAsg, uFrz, uFrz1, frzAll, frz1, retE, uVar, uK, u2, wI, cYes, wEq, wIsN, wIx, wMem, uAnd, uOr, uNot, uB, uTAnd, uTOr, uTNot, uRowT, uIte, uChain, uNil, uCons, uLst, uTup, uFld, uSelf, uC, wLen, wTupOf, wI1, wI2, wInt, wBls, wInts, wIsi1, wIsiC, uIsRow, uCall, uCallN, uT, uTs, rowD_lst, rowD_tup, rowD_int, isBk, uRaise, uPar, uParOO, uApp, uExt, uPop, uAug, uNeg, uTIx, wCat, frs0, List.map_cons, List.map_nil, List.getElem?_cons_zero, List.getElem?_cons_succ, List.set_cons_zero, List.set_cons_succ, List.length_cons, List.length_nil, List.nil_append, List.cons_append, Nat.reduceAdd, Nat.reduceSub, List.replicate_zero, List.replicate_succ, isNonD, isFlat, xor_f, xor_t, Bool.true_or, Bool.false_or, Bool.and_true, Bool.true_and, Bool.or_true, Bool.or_false, true_and, and_true, forall_const, true_implies, false_implies, implies_true, Bool.false_eq_true, reduceCtorEq, Option.some.injEq, exists_eq_left, exists_eq_left', kit_tab, exists_and_left, Option.isSome_some, Option.isSome_none, con1, con2, con3, con4, con1E, con2E, con3E, endE, CisI, CisW, CisR, CisP, CisS, atI0, atI1, uSortL, uSortSet, uLenSet, atI2, atI3, uiRow, uiVar, uiRng1, uiRng2, uLc, noOi_fr, noOi_un, noOi_ow, uIxO, List.all_cons, List.all_nil, wipeD, uExpr, uAttr, putD, uMake, uiEnum, initE, iNx, Sl.oi.injEq, and_imp, forall_eq', forall_apply_eq_imp_iff, uM0, uM1, uM2, uMp1, uMp2, eqv_lnil, shp_lnil, shp_ints, retM, uSl, uoN, uoS, wRep, wLtP, uJoin, wRepr, uKwC, wStrO, isSeqD, z, e, Bool.not_true, Bool.false_eq_true, withinD, optI, okD, D.ok]
    refine ⟨ok, fun y => by simpa [y] using q, fun y => by simpa [y] using q⟩
end
end K06

set_option linter.all false
set_option maxRecDepth 100000
set_option maxHeartbeats 4000000
namespace K06
open PySem PySem.Spec PyProof.Rows L2 Nv VL
section
variable {P : Program} {w : World} {K : PySem.W.Frag} {mg : Str → Option Value} {base : Heap} {tk : Tok} {aST : Addr}
abbrev s__number_beyond : Stmt := topS 28
theorem sc__number_beyond : FnScope ["squares", "shut", "square", "side", "beyond"] ["squares", "shut", "square", "side"] (defScope s__number_beyond) := ⟨rfl, rfl, rfl, by decide +kernel, rfl, by decide +kernel, by decide +kernel⟩
theorem ok__number_beyond {f : Addr} {fd : FuncData} (F : Fun K "_number_beyond" "_number_beyond" s__number_beyond f fd) (T : Txt K mg tk aST) : FnOk P w K mg base (L2.CX P w) 1 f fd ["squares", "shut", "square", "side"] (spV K C_nb) := by
  refine con_ok F sc__number_beyond (fun m t ds Pq pe h => by obtain ⟨_, _, _, _, rfl, _⟩ := h; rfl) (fun c pe cdv A outer s H E hK tk hx hr => ⟨_, (vs_cons (vs_set (i := 4) sc__number_beyond.nd rfl (by first | exact Or.inl rfl | exact Or.inr rfl) (v_tup (va_cons (v_op op_add w_add (v_ix (o_ix hK) w_ix (v_var (pv 2)) (v_int pe_int) (fun _ _ => rfl)) (v_ix (o_ix hK) w_ix (v_ix (o_ix hK) w_ix (v_glob hK T.k_STEPS (by rfl)) (v_var (pv 3)) (fun _ _ => rfl)) (v_int pe_int) (fun _ _ => rfl))) (va_cons (v_op op_add w_add (v_ix (o_ix hK) w_ix (v_var (pv 2)) (v_int pe_int) (fun _ _ => rfl)) (v_ix (o_ix hK) w_ix (v_ix (o_ix hK) w_ix (v_glob hK T.k_STEPS (by rfl)) (v_var (pv 3)) (fun _ _ => rfl)) (v_int pe_int) (fun _ _ => rfl))) va_nil))))
(vs_cons (vs_if (PW.pt (vt_or (vt_cmp (o_nin hK hr.units) w_in (v_var (pv 4)) (v_var (pv 0)) (by rfl)) (vt_or1 (vt_cmp (o_in hK hr.units) w_in (v_callTy (b_tup hK) c_tup (by rfl) T.n_tuple (by decide +kernel) (va_cons (ne_ve (vn_sortL hr.units hK (by rfl) T.n_sorted (ne_ve (vn_lst (va_cons (v_var (pv 2)) (va_cons (v_var (pv 4)) va_nil)))))) va_nil)) (v_var (pv 1)) (by rfl)))))
(vs_one (vs_ret (v_non pe_non)))
vs_nil)
(vs_one (vs_ret (v_tix hK hr.units (v_var (pv 0)) (v_var (pv 4))))))), fun t ds Pq h => ?_⟩)
  obtain ⟨sq, sh, p, s, rfl, h0, h4, q⟩ := h
  have hs : s = 0 ∨ s = 1 ∨ s = 2 ∨ s = 3 := by omega
  rcases hs with rfl | rfl | rfl | rfl
  all_goals simp only [uSeq, later_cons, uNext, uRet, uRetN, uIf, uSet, uSetO, uAsg, uFrz, uFrz1, frzAll, frz1, retE, uVar, uK, u2, wI, cYes, wEq, wIsN, wIx, wMem, uAnd, uOr, uNot, uB, uTAnd, uTOr, uTNot, uRowT, uIte, uChain, uNil, uCons, uLst, uTup, uFld, uSelf, uC, wLen, wTupOf, wI1, wI2, wInt, wBls, wInts, wIsi1, wIsiC, uIsRow, uCall, uCallN, uT, uTs, rowD_lst, rowD_tup, rowD_int, isBk, uRaise, uPar, uParOO, uApp, uExt, uPop, uAug, uNeg, uTIx, wCat, frs0, List.map_cons, List.map_nil, List.getElem?_cons_zero, List.getElem?_cons_succ, List.set_cons_zero, List.set_cons_succ, List.length_cons, List.length_nil, List.nil_append, List.cons_append, Nat.reduceAdd, Nat.reduceSub, List.replicate_zero, List.replicate_succ, isNonD, isFlat, xor_f, xor_t, Bool.true_or, Bool.false_or, Bool.and_true, Bool.true_and, Bool.or_true, Bool.or_false, true_and, and_true, forall_const, true_implies, false_implies, implies_true, Bool.false_eq_true, reduceCtorEq, Option.some.injEq, exists_eq_left, exists_eq_left', kit_tab, exists_and_left, Option.isSome_some, Option.isSome_none, con1, con2, con3, con4, con1E, con2E, con3E, endE, CisI, CisW, CisR, CisP, CisS, atI0, atI1, uSortL, uSortSet, uLenSet, atI2, atI3, uiRow, uiVar, uiRng1, uiRng2, uLc, noOi_fr, noOi_un, noOi_ow, uIxO, List.all_cons, List.all_nil, wipeD, uExpr, uAttr, putD, uMake, uiEnum, initE, iNx, Sl.oi.injEq, and_imp, forall_eq', forall_apply_eq_imp_iff, uM0, uM1, uM2, uMp1, uMp2, eqv_lnil, shp_lnil, shp_ints, retM, uSl, uoN, uoS, wRep, wLtP, uJoin, wRepr, uKwC, wStrO, isSeqD, dSTEPS, rowD_P, rowD_S, rowD_Sq, rowD_Sh, tup_P, tup_S, tup_S', lit_sz, shpP60, shpS60, shpsP59, shpsS59, any_P, any_S, any_I, all_P, all_S, tupK_P, tupK_S, alike_two, alike_P, alike_S, optD, shp_int, shp_non, shp_bl, eqv_int, eqv_bl, decide_eq_true_eq, decide_eq_false_iff_not, Bool.not_eq_true', Bool.not_eq_false', Bool.not_true, Bool.not_false, Bool.true_eq_false, Bool.false_eq_true, Bool.and_self]
  all_goals exact nb_fin q rfl
abbrev s__all_beyond : Stmt := topS 29
theorem sc__all_beyond : FnScope ["squares", "shut", "side", "square"] ["squares", "shut"] (defScope s__all_beyond) := ⟨rfl, rfl, rfl, by decide +kernel, rfl, by decide +kernel, by decide +kernel⟩
variable {fN : Addr} {dN : FuncData}
theorem ok__all_beyond {f : Addr} {fd : FuncData} (D__number_beyond : Df K mg "_number_beyond" s__number_beyond ["squares", "shut", "square", "side"] fN dN) (F : Fun K "_all_beyond" "_all_beyond" s__all_beyond f fd) (T : Txt K mg tk aST) : FnOk P w K mg base (L2.CX P w) 2 f fd ["squares", "shut"] (spV K C_ab) := by
  have G__number_beyond : FnOk P w K mg base (L2.CX P w) 1 fN dN ["squares", "shut", "square", "side"] (spV K C_nb) := ok__number_beyond D__number_beyond.F T
  refine con_ok F sc__all_beyond (fun m t ds Pq pe h => by obtain ⟨_, _, rfl, _⟩ := h; rfl) (fun c pe cdv A outer s H E hK tk hx hr => ⟨_, (vs_one (vs_ret (v_callTy (b_tup hK) c_tup (by rfl) T.n_tuple (by decide +kernel) (va_cons (ne_ve (vn_lc hK (by rfl) sc__all_beyond.nd (T := (.nm 3)) (own := [(("square" : Str), 3)]) (by decide) (vi_var (i := 0) hK (pv 0)) (blkOk_by (N := ["squares", "shut", "side", "square"]) (sc := defScope s__all_beyond) (by decide +kernel)) (fun _ _ _ _ _ => (pg_name (i := 3) sc__all_beyond.nd rfl (by first | exact Or.inl rfl | exact Or.inr rfl))) (fun _ _ _ _ _ => vts_nil) (fun _ _ _ _ _ => (v_callTy (b_tup hK) c_tup (by rfl) T.n_tuple (by decide +kernel) (va_cons (ne_ve (vn_lc hK (by rfl) sc__all_beyond.nd (T := (.nm 2)) (own := [(("side" : Str), 2)]) (by decide) (vi_rng1 (by rfl) T.n_range (va_cons (v_int pe_int) va_nil)) (blkOk_by (by kernel_rfl)) (fun _ _ _ _ _ => (pg_name (i := 2) sc__all_beyond.nd rfl (by first | exact Or.inl rfl | exact Or.inr rfl))) (fun _ _ _ _ _ => vts_nil) (fun _ _ _ _ _ => (v_call hK G__number_beyond (hr.mono (by decide)) (by rfl) D__number_beyond.m D__number_beyond.F.kp D__number_beyond.b (passF fun _ _ z => z) (va_cons (v_var (pv 0)) (va_cons (v_var (pv 1)) (va_cons (v_var (pv 3)) (va_cons (v_var (pv 2)) va_nil)))))))) va_nil))))) va_nil)))), fun t ds Pq h => ?_⟩)
  obtain ⟨sq, sh, rfl, few, q⟩ := h
  simp only [uSeq, later_cons, uNext, uRet, uRetN, uIf, uSet, uSetO, uAsg, uFrz, uFrz1, frzAll, frz1, retE, uVar, uK, u2, wI, cYes, wEq, wIsN, wIx, wMem, uAnd, uOr, uNot, uB, uTAnd, uTOr, uTNot, uRowT, uIte, uChain, uNil, uCons, uLst, uTup, uFld, uSelf, uC, wLen, wTupOf, wI1, wI2, wInt, wBls, wInts, wIsi1, wIsiC, uIsRow, uCall, uCallN, uT, uTs, rowD_lst, rowD_tup, rowD_int, isBk, uRaise, uPar, uParOO, uApp, uExt, uPop, uAug, uNeg, uTIx, wCat, frs0, List.map_cons, List.map_nil, List.getElem?_cons_zero, List.getElem?_cons_succ, List.set_cons_zero, List.set_cons_succ, List.length_cons, List.length_nil, List.nil_append, List.cons_append, Nat.reduceAdd, Nat.reduceSub, List.replicate_zero, List.replicate_succ, isNonD, isFlat, xor_f, xor_t, Bool.true_or, Bool.false_or, Bool.and_true, Bool.true_and, Bool.or_true, Bool.or_false, true_and, and_true, forall_const, true_implies, false_implies, implies_true, Bool.false_eq_true, reduceCtorEq, Option.some.injEq, exists_eq_left, exists_eq_left', kit_tab, exists_and_left, Option.isSome_some, Option.isSome_none, con1, con2, con3, con4, con1E, con2E, con3E, endE, CisI, CisW, CisR, CisP, CisS, atI0, atI1, uSortL, uSortSet, uLenSet, atI2, atI3, uiRow, uiVar, uiRng1, uiRng2, uLc, noOi_fr, noOi_un, noOi_ow, uIxO, List.all_cons, List.all_nil, wipeD, uExpr, uAttr, putD, uMake, uiEnum, initE, iNx, Sl.oi.injEq, and_imp, forall_eq', forall_apply_eq_imp_iff, uM0, uM1, uM2, uMp1, uMp2, eqv_lnil, shp_lnil, shp_ints, retM, uSl, uoN, uoS, wRep, wLtP, uJoin, wRepr, uKwC, wStrO, isSeqD, rowD_P, rowD_S, rowD_Sq, rowD_Sh, tup_P, tup_S, tup_S', lit_sz, shpP60, shpS60, shpsP59, shpsS59, any_P, any_S, any_I, all_P, all_S, tupK_P, tupK_S, alike_two, alike_P, alike_S, optD, shp_int, shp_non, shp_bl, eqv_int, eqv_bl, decide_eq_true_eq, decide_eq_false_iff_not, Bool.not_eq_true', Bool.not_eq_false', Bool.not_true, Bool.not_false, Bool.true_eq_false, Bool.false_eq_true, Bool.and_self]
  refine ⟨by rw [List.length_map, sizeLine_eq]; omega, lcG_map (fun p => D.tup ([bey sq sh p 0, bey sq sh p 1, bey sq sh p 2, bey sq sh p 3].map optD)) (fun p hp Kk hq => ?_) ?_⟩
  · simp only [uSeq, later_cons, uNext, uRet, uRetN, uIf, uSet, uSetO, uAsg, uFrz, uFrz1, frzAll, frz1, retE, uVar, uK, u2, wI, cYes, wEq, wIsN, wIx, wMem, uAnd, uOr, uNot, uB, uTAnd, uTOr, uTNot, uRowT, uIte, uChain, uNil, uCons, uLst, uTup, uFld, uSelf, uC, wLen, wTupOf, wI1, wI2, wInt, wBls, wInts, wIsi1, wIsiC, uIsRow, uCall, uCallN, uT, uTs, rowD_lst, rowD_tup, rowD_int, isBk, uRaise, uPar, uParOO, uApp, uExt, uPop, uAug, uNeg, uTIx, wCat, frs0, List.map_cons, List.map_nil, List.getElem?_cons_zero, List.getElem?_cons_succ, List.set_cons_zero, List.set_cons_succ, List.length_cons, List.length_nil, List.nil_append, List.cons_append, Nat.reduceAdd, Nat.reduceSub, List.replicate_zero, List.replicate_succ, isNonD, isFlat, xor_f, xor_t, Bool.true_or, Bool.false_or, Bool.and_true, Bool.true_and, Bool.or_true, Bool.or_false, true_and, and_true, forall_const, true_implies, false_implies, implies_true, Bool.false_eq_true, reduceCtorEq, Option.some.injEq, exists_eq_left, exists_eq_left', kit_tab, exists_and_left, Option.isSome_some, Option.isSome_none, con1, con2, con3, con4, con1E, con2E, con3E, endE, CisI, CisW, CisR, CisP, CisS, atI0, atI1, uSortL, uSortSet, uLenSet, atI2, atI3, uiRow, uiVar, uiRng1, uiRng2, uLc, noOi_fr, noOi_un, noOi_ow, uIxO, List.all_cons, List.all_nil, wipeD, uExpr, uAttr, putD, uMake, uiEnum, initE, iNx, Sl.oi.injEq, and_imp, forall_eq', forall_apply_eq_imp_iff, uM0, uM1, uM2, uMp1, uMp2, eqv_lnil, shp_lnil, shp_ints, retM, uSl, uoN, uoS, wRep, wLtP, uJoin, wRepr, uKwC, wStrO, isSeqD, rowD_P, rowD_S, rowD_Sq, rowD_Sh, tup_P, tup_S, tup_S', lit_sz, shpP60, shpS60, shpsP59, shpsS59, any_P, any_S, any_I, all_P, all_S, tupK_P, tupK_S, alike_two, alike_P, alike_S, optD, shp_int, shp_non, shp_bl, eqv_int, eqv_bl, decide_eq_true_eq, decide_eq_false_iff_not, Bool.not_eq_true', Bool.not_eq_false', Bool.not_true, Bool.not_false, Bool.true_eq_false, Bool.false_eq_true, Bool.and_self]
    have e4 : rangeD 0 (Int.toNat 4) = ([0, 1, 2, 3] : List Int).map D.int := rfl
    rw [e4]
    refine ⟨by decide, by decide, by rw [List.length_map, sizeLine_eq]; decide, lcG_map (fun s => optD (bey sq sh p s)) (fun s hs K2 h2 => ?_) hq⟩
    simp only [uSeq, later_cons, uNext, uRet, uRetN, uIf, uSet, uSetO, uAsg, uFrz, uFrz1, frzAll, frz1, retE, uVar, uK, u2, wI, cYes, wEq, wIsN, wIx, wMem, uAnd, uOr, uNot, uB, uTAnd, uTOr, uTNot, uRowT, uIte, uChain, uNil, uCons, uLst, uTup, uFld, uSelf, uC, wLen, wTupOf, wI1, wI2, wInt, wBls, wInts, wIsi1, wIsiC, uIsRow, uCall, uCallN, uT, uTs, rowD_lst, rowD_tup, rowD_int, isBk, uRaise, uPar, uParOO, uApp, uExt, uPop, uAug, uNeg, uTIx, wCat, frs0, List.map_cons, List.map_nil, List.getElem?_cons_zero, List.getElem?_cons_succ, List.set_cons_zero, List.set_cons_succ, List.length_cons, List.length_nil, List.nil_append, List.cons_append, Nat.reduceAdd, Nat.reduceSub, List.replicate_zero, List.replicate_succ, isNonD, isFlat, xor_f, xor_t, Bool.true_or, Bool.false_or, Bool.and_true, Bool.true_and, Bool.or_true, Bool.or_false, true_and, and_true, forall_const, true_implies, false_implies, implies_true, Bool.false_eq_true, reduceCtorEq, Option.some.injEq, exists_eq_left, exists_eq_left', kit_tab, exists_and_left, Option.isSome_some, Option.isSome_none, con1, con2, con3, con4, con1E, con2E, con3E, endE, CisI, CisW, CisR, CisP, CisS, atI0, atI1, uSortL, uSortSet, uLenSet, atI2, atI3, uiRow, uiVar, uiRng1, uiRng2, uLc, noOi_fr, noOi_un, noOi_ow, uIxO, List.all_cons, List.all_nil, wipeD, uExpr, uAttr, putD, uMake, uiEnum, initE, iNx, Sl.oi.injEq, and_imp, forall_eq', forall_apply_eq_imp_iff, uM0, uM1, uM2, uMp1, uMp2, eqv_lnil, shp_lnil, shp_ints, retM, uSl, uoN, uoS, wRep, wLtP, uJoin, wRepr, uKwC, wStrO, isSeqD, rowD_P, rowD_S, rowD_Sq, rowD_Sh, tup_P, tup_S, tup_S', lit_sz, shpP60, shpS60, shpsP59, shpsS59, any_P, any_S, any_I, all_P, all_S, tupK_P, tupK_S, alike_two, alike_P, alike_S, optD, shp_int, shp_non, shp_bl, eqv_int, eqv_bl, decide_eq_true_eq, decide_eq_false_iff_not, Bool.not_eq_true', Bool.not_eq_false', Bool.not_true, Bool.not_false, Bool.true_eq_false, Bool.false_eq_true, Bool.and_self]
    have h4 : 0 ≤ s ∧ s < 4 := by
      simp only [List.mem_cons, List.not_mem_nil, or_false] at hs
      omega
    refine ⟨sq, sh, p, s, rfl, h4.1, h4.2, ?_⟩
    exact h2
  · have e : (beys sq sh).map (fun r => D.tup (r.map optD)) = sq.map fun p => D.tup ([bey sq sh p 0, bey sq sh p 1, bey sq sh p 2, bey sq sh p 3].map optD) := by
      rw [beys, List.map_map]
      rfl
    rw [List.nil_append, ← e]
    exact q
abbrev s_hang_together : Stmt := topS 24
theorem sc_hang_together : FnScope ["squares", "shut", "beyond", "found", "at", "row", "fresh", "number"] ["squares", "shut"] (defScope s_hang_together) := ⟨rfl, rfl, rfl, by decide +kernel, rfl, by decide +kernel, by decide +kernel⟩
variable {fA : Addr} {dA : FuncData}
theorem ok_hang_together {f : Addr} {fd : FuncData} (D__number_beyond : Df K mg "_number_beyond" s__number_beyond ["squares", "shut", "square", "side"] fN dN) (D__all_beyond : Df K mg "_all_beyond" s__all_beyond ["squares", "shut"] fA dA) (F : Fun K "hang_together" "hang_together" s_hang_together f fd) (T : Txt K mg tk aST) : FnOk P w K mg base (L2.CX P w) 3 f fd ["squares", "shut"] (spV K C_ht) := by
  have G__all_beyond : FnOk P w K mg base (L2.CX P w) 2 fA dA ["squares", "shut"] (spV K C_ab) := ok__all_beyond D__number_beyond D__all_beyond.F T
  refine con_ok F sc_hang_together (fun m t ds Pq pe h => by obtain ⟨_, _, rfl, _⟩ := h; rfl) (fun c pe cdv A outer s H E hK tk hx hr => ⟨_, (vs_cons (vs_set (i := 2) sc_hang_together.nd rfl (by first | exact Or.inl rfl | exact Or.inr rfl) (v_call hK G__all_beyond (hr.mono (by decide)) (by rfl) D__all_beyond.m D__all_beyond.F.kp D__all_beyond.b hx (va_cons (v_var (pv 0)) (va_cons (v_var (pv 1)) va_nil))))
(vs_cons (vs_setO (i := 3) sc_hang_together.nd rfl (by first | exact Or.inl rfl | exact Or.inr rfl) (vn_lst (va_cons (v_int pe_int) va_nil)))
(vs_cons (vs_set (i := 4) sc_hang_together.nd rfl (by first | exact Or.inl rfl | exact Or.inr rfl) (v_int pe_int))
(vs_cons (vs_while PassesOwn.leaving (vt_cmp op_lt w_lt (v_var (pv 4)) (v_callB (b_len hK) c_len (by rfl) T.n_len (by decide +kernel) (va_cons (v_var (pv 3)) va_nil)) (nomark _))
(vs_cons (vs_set (i := 5) sc_hang_together.nd rfl (by first | exact Or.inl rfl | exact Or.inr rfl) (v_ix (o_ix hK) w_ix (v_var (pv 2)) (v_ixO (i := 3) hK (pv 3) (v_var (pv 4)) (fun _ _ => rfl)) (fun _ _ => rfl)))
(vs_cons (vs_setLc (i := 6) hK (by rfl) sc_hang_together.nd rfl rfl (sw_true rfl rfl rfl (by decide +kernel)) (T := (.nm 7)) (own := [(("number" : Str), 7)]) (by decide) (vi_var (i := 5) hK (pv 5)) (blkOk_by (N := ["squares", "shut", "beyond", "found", "at", "row", "fresh", "number"]) (sc := defScope s_hang_together) (by decide +kernel)) (fun _ _ _ _ _ => (pg_name (i := 7) sc_hang_together.nd rfl (by first | exact Or.inl rfl | exact Or.inr rfl))) (fun _ _ _ _ _ => (vts_one (PW.pt (vt_and (vt_cmp op_notN w_notN (v_var (pv 7)) (v_non pe_non) (nomark _)) (vt_and1 (vt_cmp (o_nin hK hr.units) w_in (v_var (pv 7)) (v_var (pv 3)) (by rfl))))))) (fun _ _ _ _ _ => (v_var (pv 7))))
(vs_cons (vs_ext (i := 3) hK (pv 3) (v_var (pv 6)))
(vs_one (vs_aug (i := 4) sc_hang_together.nd rfl (by first | exact Or.inl rfl | exact Or.inr rfl) (v_int pe_int) ip_add))))))
(vs_one (vs_frz (vs_ret (v_cmp (o_eq hK hr.units) w_eq (v_callB (b_len hK) c_len (by rfl) T.n_len (by decide +kernel) (va_cons (v_var (pv 3)) va_nil)) (v_callB (b_len hK) c_len (by rfl) T.n_len (by decide +kernel) (va_cons (v_var (pv 0)) va_nil)) (nomark _))))))))), fun t ds Pq h => ?_⟩)
  obtain ⟨sq, sh, rfl, pos, few, q⟩ := h
  simp only [uSeq, later_cons, uNext, uRet, uRetN, uIf, uSet, uSetO, uAsg, uFrz, uFrz1, frzAll, frz1, retE, uVar, uK, u2, wI, cYes, wEq, wIsN, wIx, wMem, uAnd, uOr, uNot, uB, uTAnd, uTOr, uTNot, uRowT, uIte, uChain, uNil, uCons, uLst, uTup, uFld, uSelf, uC, wLen, wTupOf, wI1, wI2, wInt, wBls, wInts, wIsi1, wIsiC, uIsRow, uCall, uCallN, uT, uTs, rowD_lst, rowD_tup, rowD_int, isBk, uRaise, uPar, uParOO, uApp, uExt, uPop, uAug, uNeg, uTIx, wCat, frs0, List.map_cons, List.map_nil, List.getElem?_cons_zero, List.getElem?_cons_succ, List.set_cons_zero, List.set_cons_succ, List.length_cons, List.length_nil, List.nil_append, List.cons_append, Nat.reduceAdd, Nat.reduceSub, List.replicate_zero, List.replicate_succ, isNonD, isFlat, xor_f, xor_t, Bool.true_or, Bool.false_or, Bool.and_true, Bool.true_and, Bool.or_true, Bool.or_false, true_and, and_true, forall_const, true_implies, false_implies, implies_true, Bool.false_eq_true, reduceCtorEq, Option.some.injEq, exists_eq_left, exists_eq_left', kit_tab, exists_and_left, Option.isSome_some, Option.isSome_none, con1, con2, con3, con4, con1E, con2E, con3E, endE, CisI, CisW, CisR, CisP, CisS, atI0, atI1, uSortL, uSortSet, uLenSet, atI2, atI3, uiRow, uiVar, uiRng1, uiRng2, uLc, noOi_fr, noOi_un, noOi_ow, uIxO, List.all_cons, List.all_nil, wipeD, uExpr, uAttr, putD, uMake, uiEnum, initE, iNx, Sl.oi.injEq, and_imp, forall_eq', forall_apply_eq_imp_iff, uM0, uM1, uM2, uMp1, uMp2, eqv_lnil, shp_lnil, shp_ints, retM, uSl, uoN, uoS, wRep, wLtP, uJoin, wRepr, uKwC, wStrO, isSeqD]
  refine ⟨sq, sh, rfl, few, ?_⟩
  simp only [uSeq, later_cons, uNext, uRet, uRetN, uIf, uSet, uSetO, uAsg, uFrz, uFrz1, frzAll, frz1, retE, uVar, uK, u2, wI, cYes, wEq, wIsN, wIx, wMem, uAnd, uOr, uNot, uB, uTAnd, uTOr, uTNot, uRowT, uIte, uChain, uNil, uCons, uLst, uTup, uFld, uSelf, uC, wLen, wTupOf, wI1, wI2, wInt, wBls, wInts, wIsi1, wIsiC, uIsRow, uCall, uCallN, uT, uTs, rowD_lst, rowD_tup, rowD_int, isBk, uRaise, uPar, uParOO, uApp, uExt, uPop, uAug, uNeg, uTIx, wCat, frs0, List.map_cons, List.map_nil, List.getElem?_cons_zero, List.getElem?_cons_succ, List.set_cons_zero, List.set_cons_succ, List.length_cons, List.length_nil, List.nil_append, List.cons_append, Nat.reduceAdd, Nat.reduceSub, List.replicate_zero, List.replicate_succ, isNonD, isFlat, xor_f, xor_t, Bool.true_or, Bool.false_or, Bool.and_true, Bool.true_and, Bool.or_true, Bool.or_false, true_and, and_true, forall_const, true_implies, false_implies, implies_true, Bool.false_eq_true, reduceCtorEq, Option.some.injEq, exists_eq_left, exists_eq_left', kit_tab, exists_and_left, Option.isSome_some, Option.isSome_none, con1, con2, con3, con4, con1E, con2E, con3E, endE, CisI, CisW, CisR, CisP, CisS, atI0, atI1, uSortL, uSortSet, uLenSet, atI2, atI3, uiRow, uiVar, uiRng1, uiRng2, uLc, noOi_fr, noOi_un, noOi_ow, uIxO, List.all_cons, List.all_nil, wipeD, uExpr, uAttr, putD, uMake, uiEnum, initE, iNx, Sl.oi.injEq, and_imp, forall_eq', forall_apply_eq_imp_iff, uM0, uM1, uM2, uMp1, uMp2, eqv_lnil, shp_lnil, shp_ints, retM, uSl, uoN, uoS, wRep, wLtP, uJoin, wRepr, uKwC, wStrO, isSeqD, rowD_P, rowD_S, rowD_Sq, rowD_Sh, tup_P, tup_S, tup_S', lit_sz, shpP60, shpS60, shpsP59, shpsS59, any_P, any_S, any_I, all_P, all_S, tupK_P, tupK_S, alike_two, alike_P, alike_S, optD, shp_int, shp_non, shp_bl, eqv_int, eqv_bl, decide_eq_true_eq, decide_eq_false_iff_not, Bool.not_eq_true', Bool.not_eq_false', Bool.not_true, Bool.not_false, Bool.true_eq_false, Bool.false_eq_true, Bool.and_self]
  refine while_i (fun m t' δ => t' = t ∧ ∃ found at_ x5 x6 x7, δ = [Sl.fr (dSq sq), Sl.fr (dSh sh), Sl.fr (dBey (beys sq sh)), Sl.ow (found.map natD), Sl.fr (natD at_), x5, x6, x7] ∧ noOi (some x7) = true ∧ Bfs (nbN sq sh) sq.length found at_ ∧ m = sq.length - at_) _ ⟨rfl, [0], 0, _, _, _, rfl, rfl, Bfs.start pos, rfl⟩ ?_
  rintro m t' δ ⟨rfl, found, at_, x5, x6, x7, rfl, no7, bf, rfl⟩
  have bl := bf.le
  simp only [uSeq, later_cons, uNext, uRet, uRetN, uIf, uSet, uSetO, uAsg, uFrz, uFrz1, frzAll, frz1, retE, uVar, uK, u2, wI, cYes, wEq, wIsN, wIx, wMem, uAnd, uOr, uNot, uB, uTAnd, uTOr, uTNot, uRowT, uIte, uChain, uNil, uCons, uLst, uTup, uFld, uSelf, uC, wLen, wTupOf, wI1, wI2, wInt, wBls, wInts, wIsi1, wIsiC, uIsRow, uCall, uCallN, uT, uTs, rowD_lst, rowD_tup, rowD_int, isBk, uRaise, uPar, uParOO, uApp, uExt, uPop, uAug, uNeg, uTIx, wCat, frs0, List.map_cons, List.map_nil, List.getElem?_cons_zero, List.getElem?_cons_succ, List.set_cons_zero, List.set_cons_succ, List.length_cons, List.length_nil, List.nil_append, List.cons_append, Nat.reduceAdd, Nat.reduceSub, List.replicate_zero, List.replicate_succ, isNonD, isFlat, xor_f, xor_t, Bool.true_or, Bool.false_or, Bool.and_true, Bool.true_and, Bool.or_true, Bool.or_false, true_and, and_true, forall_const, true_implies, false_implies, implies_true, Bool.false_eq_true, reduceCtorEq, Option.some.injEq, exists_eq_left, exists_eq_left', kit_tab, exists_and_left, Option.isSome_some, Option.isSome_none, con1, con2, con3, con4, con1E, con2E, con3E, endE, CisI, CisW, CisR, CisP, CisS, atI0, atI1, uSortL, uSortSet, uLenSet, atI2, atI3, uiRow, uiVar, uiRng1, uiRng2, uLc, noOi_fr, noOi_un, noOi_ow, uIxO, List.all_cons, List.all_nil, wipeD, uExpr, uAttr, putD, uMake, uiEnum, initE, iNx, Sl.oi.injEq, and_imp, forall_eq', forall_apply_eq_imp_iff, uM0, uM1, uM2, uMp1, uMp2, eqv_lnil, shp_lnil, shp_ints, retM, uSl, uoN, uoS, wRep, wLtP, uJoin, wRepr, uKwC, wStrO, isSeqD, rowD_P, rowD_S, rowD_Sq, rowD_Sh, tup_P, tup_S, tup_S', lit_sz, shpP60, shpS60, shpsP59, shpsS59, any_P, any_S, any_I, all_P, all_S, tupK_P, tupK_S, alike_two, alike_P, alike_S, optD, shp_int, shp_non, shp_bl, eqv_int, eqv_bl, decide_eq_true_eq, decide_eq_false_iff_not, Bool.not_eq_true', Bool.not_eq_false', Bool.not_true, Bool.not_false, Bool.true_eq_false, Bool.false_eq_true, Bool.and_self, natD, List.length_map]
  refine ⟨fun lt => ?_, fun ge => ?_⟩
  · have la : at_ < found.length := by omega
    have ef := List.getElem?_eq_getElem la
    generalize found[at_] = x at ef
    have xl := bf.lt x (List.mem_of_getElem? ef)
    obtain ⟨r, er, nr, lr⟩ := beys_at (sh := sh) xl
    have e1 : atI (found.map natD) (at_ : Int) = some (natD x) := by rw [atI_map, ef]; rfl
    have e2 : atI ((beys sq sh).map fun r => D.tup (r.map optD)) (x : Int) = some (.tup (r.map optD)) := by rw [atI_map, er]; rfl
    simp only [uSeq, later_cons, uNext, uRet, uRetN, uIf, uSet, uSetO, uAsg, uFrz, uFrz1, frzAll, frz1, retE, uVar, uK, u2, wI, cYes, wEq, wIsN, wIx, wMem, uAnd, uOr, uNot, uB, uTAnd, uTOr, uTNot, uRowT, uIte, uChain, uNil, uCons, uLst, uTup, uFld, uSelf, uC, wLen, wTupOf, wI1, wI2, wInt, wBls, wInts, wIsi1, wIsiC, uIsRow, uCall, uCallN, uT, uTs, rowD_lst, rowD_tup, rowD_int, isBk, uRaise, uPar, uParOO, uApp, uExt, uPop, uAug, uNeg, uTIx, wCat, frs0, List.map_cons, List.map_nil, List.getElem?_cons_zero, List.getElem?_cons_succ, List.set_cons_zero, List.set_cons_succ, List.length_cons, List.length_nil, List.nil_append, List.cons_append, Nat.reduceAdd, Nat.reduceSub, List.replicate_zero, List.replicate_succ, isNonD, isFlat, xor_f, xor_t, Bool.true_or, Bool.false_or, Bool.and_true, Bool.true_and, Bool.or_true, Bool.or_false, true_and, and_true, forall_const, true_implies, false_implies, implies_true, Bool.false_eq_true, reduceCtorEq, Option.some.injEq, exists_eq_left, exists_eq_left', kit_tab, exists_and_left, Option.isSome_some, Option.isSome_none, con1, con2, con3, con4, con1E, con2E, con3E, endE, CisI, CisW, CisR, CisP, CisS, atI0, atI1, uSortL, uSortSet, uLenSet, atI2, atI3, uiRow, uiVar, uiRng1, uiRng2, uLc, noOi_fr, noOi_un, noOi_ow, uIxO, List.all_cons, List.all_nil, wipeD, uExpr, uAttr, putD, uMake, uiEnum, initE, iNx, Sl.oi.injEq, and_imp, forall_eq', forall_apply_eq_imp_iff, uM0, uM1, uM2, uMp1, uMp2, eqv_lnil, shp_lnil, shp_ints, retM, uSl, uoN, uoS, wRep, wLtP, uJoin, wRepr, uKwC, wStrO, isSeqD, rowD_P, rowD_S, rowD_Sq, rowD_Sh, tup_P, tup_S, tup_S', lit_sz, shpP60, shpS60, shpsP59, shpsS59, any_P, any_S, any_I, all_P, all_S, tupK_P, tupK_S, alike_two, alike_P, alike_S, optD, shp_int, shp_non, shp_bl, eqv_int, eqv_bl, decide_eq_true_eq, decide_eq_false_iff_not, Bool.not_eq_true', Bool.not_eq_false', Bool.not_true, Bool.not_false, Bool.true_eq_false, Bool.false_eq_true, Bool.and_self, e1, natD, e2, no7]
    refine ⟨by rw [List.length_map, lr, sizeLine_eq]; decide, ?_⟩
    refine lcG_fm (freshO found) (fun o ho Kk Nn hq => ?_) ?_
    · have en := fun n : Nat => any_N found n
      simp only [natD] at en
      cases o with
      | none => simpa only [uSeq, later_cons, uNext, uRet, uRetN, uIf, uSet, uSetO, uAsg, uFrz, uFrz1, frzAll, frz1, retE, uVar, uK, u2, wI, cYes, wEq, wIsN, wIx, wMem, uAnd, uOr, uNot, uB, uTAnd, uTOr, uTNot, uRowT, uIte, uChain, uNil, uCons, uLst, uTup, uFld, uSelf, uC, wLen, wTupOf, wI1, wI2, wInt, wBls, wInts, wIsi1, wIsiC, uIsRow, uCall, uCallN, uT, uTs, rowD_lst, rowD_tup, rowD_int, isBk, uRaise, uPar, uParOO, uApp, uExt, uPop, uAug, uNeg, uTIx, wCat, frs0, List.map_cons, List.map_nil, List.getElem?_cons_zero, List.getElem?_cons_succ, List.set_cons_zero, List.set_cons_succ, List.length_cons, List.length_nil, List.nil_append, List.cons_append, Nat.reduceAdd, Nat.reduceSub, List.replicate_zero, List.replicate_succ, isNonD, isFlat, xor_f, xor_t, Bool.true_or, Bool.false_or, Bool.and_true, Bool.true_and, Bool.or_true, Bool.or_false, true_and, and_true, forall_const, true_implies, false_implies, implies_true, Bool.false_eq_true, reduceCtorEq, Option.some.injEq, exists_eq_left, exists_eq_left', kit_tab, exists_and_left, Option.isSome_some, Option.isSome_none, con1, con2, con3, con4, con1E, con2E, con3E, endE, CisI, CisW, CisR, CisP, CisS, atI0, atI1, uSortL, uSortSet, uLenSet, atI2, atI3, uiRow, uiVar, uiRng1, uiRng2, uLc, noOi_fr, noOi_un, noOi_ow, uIxO, List.all_cons, List.all_nil, wipeD, uExpr, uAttr, putD, uMake, uiEnum, initE, iNx, Sl.oi.injEq, and_imp, forall_eq', forall_apply_eq_imp_iff, uM0, uM1, uM2, uMp1, uMp2, eqv_lnil, shp_lnil, shp_ints, retM, uSl, uoN, uoS, wRep, wLtP, uJoin, wRepr, uKwC, wStrO, isSeqD, rowD_P, rowD_S, rowD_Sq, rowD_Sh, tup_P, tup_S, tup_S', lit_sz, shpP60, shpS60, shpsP59, shpsS59, any_P, any_S, any_I, all_P, all_S, tupK_P, tupK_S, alike_two, alike_P, alike_S, optD, shp_int, shp_non, shp_bl, eqv_int, eqv_bl, decide_eq_true_eq, decide_eq_false_iff_not, Bool.not_eq_true', Bool.not_eq_false', Bool.not_true, Bool.not_false, Bool.true_eq_false, Bool.false_eq_true, Bool.and_self, freshO] using hq
      | some n =>
        simp only [freshO] at hq
        simp only [uSeq, later_cons, uNext, uRet, uRetN, uIf, uSet, uSetO, uAsg, uFrz, uFrz1, frzAll, frz1, retE, uVar, uK, u2, wI, cYes, wEq, wIsN, wIx, wMem, uAnd, uOr, uNot, uB, uTAnd, uTOr, uTNot, uRowT, uIte, uChain, uNil, uCons, uLst, uTup, uFld, uSelf, uC, wLen, wTupOf, wI1, wI2, wInt, wBls, wInts, wIsi1, wIsiC, uIsRow, uCall, uCallN, uT, uTs, rowD_lst, rowD_tup, rowD_int, isBk, uRaise, uPar, uParOO, uApp, uExt, uPop, uAug, uNeg, uTIx, wCat, frs0, List.map_cons, List.map_nil, List.getElem?_cons_zero, List.getElem?_cons_succ, List.set_cons_zero, List.set_cons_succ, List.length_cons, List.length_nil, List.nil_append, List.cons_append, Nat.reduceAdd, Nat.reduceSub, List.replicate_zero, List.replicate_succ, isNonD, isFlat, xor_f, xor_t, Bool.true_or, Bool.false_or, Bool.and_true, Bool.true_and, Bool.or_true, Bool.or_false, true_and, and_true, forall_const, true_implies, false_implies, implies_true, Bool.false_eq_true, reduceCtorEq, Option.some.injEq, exists_eq_left, exists_eq_left', kit_tab, exists_and_left, Option.isSome_some, Option.isSome_none, con1, con2, con3, con4, con1E, con2E, con3E, endE, CisI, CisW, CisR, CisP, CisS, atI0, atI1, uSortL, uSortSet, uLenSet, atI2, atI3, uiRow, uiVar, uiRng1, uiRng2, uLc, noOi_fr, noOi_un, noOi_ow, uIxO, List.all_cons, List.all_nil, wipeD, uExpr, uAttr, putD, uMake, uiEnum, initE, iNx, Sl.oi.injEq, and_imp, forall_eq', forall_apply_eq_imp_iff, uM0, uM1, uM2, uMp1, uMp2, eqv_lnil, shp_lnil, shp_ints, retM, uSl, uoN, uoS, wRep, wLtP, uJoin, wRepr, uKwC, wStrO, isSeqD, rowD_P, rowD_S, rowD_Sq, rowD_Sh, tup_P, tup_S, tup_S', lit_sz, shpP60, shpS60, shpsP59, shpsS59, any_P, any_S, any_I, all_P, all_S, tupK_P, tupK_S, alike_two, alike_P, alike_S, optD, shp_int, shp_non, shp_bl, eqv_int, eqv_bl, decide_eq_true_eq, decide_eq_false_iff_not, Bool.not_eq_true', Bool.not_eq_false', Bool.not_true, Bool.not_false, Bool.true_eq_false, Bool.false_eq_true, Bool.and_self, shps_N, en]
        refine ⟨fun h => ?_, fun h => ?_⟩
        · rw [if_neg h] at hq
          exact hq
        · rw [if_pos h] at hq
          exact hq
    · rw [row_fm, nr, List.nil_append]
      have fw := (bf.step ef nbN_nodup nbN_low).few
      have bf2 := bf.step ef nbN_nodup nbN_low
      refine ⟨by rw [List.length_append] at fw; rw [List.length_map, sizeLine_eq]; omega, _, ?_, rfl, _, at_ + 1, Sl.fr (D.tup (r.map optD)), Sl.fr (D.lst (((nbN sq sh x).filter fun y => decide (y ∉ found)).map natD)), x7, ?_, no7, bf2, rfl⟩
      · have := bf.few
        omega
      · rw [List.map_append]
        rfl
  · have e := bf.fin (by omega)
    refine q _ ?_
    rw [← show found.length = sq.length ↔ Hang sq sh from e]
    simp only [beqI, decide_eq_true_eq]
    omega
end
end K06

set_option linter.all false
set_option maxRecDepth 100000
set_option maxHeartbeats 4000000
namespace K06
open PySem PySem.Spec PyProof.Rows L2 Nv VL
abbrev s_BadRoom_init : Stmt := inClass (topS 7) 0
theorem sc_BadRoom_init : FnScope ["self", "part"] ["self", "part"] (defScope s_BadRoom_init) := ⟨rfl, rfl, rfl, by decide +kernel, rfl, by decide +kernel, by decide +kernel⟩
abbrev s_Misfit_init : Stmt := inClass (topS 8) 0
theorem sc_Misfit_init : FnScope ["self", "part"] ["self", "part"] (defScope s_Misfit_init) := ⟨rfl, rfl, rfl, by decide +kernel, rfl, by decide +kernel, by decide +kernel⟩
/-- the token of a module's number -/
def tkO (mg : Str → Option Value) (x : Str) : Tok := match mg x with
  | some (.int _ t) => t
  | _ => 0
theorem tkO_of {mg : Str → Option Value} {x : Str} {i : Int} {t : Tok} (h : mg x = some (.int i t)) : mg x = some (.int i (tkO mg x)) := by
  unfold tkO
  rw [h]
structure Txt2 (K : PySem.W.Frag) (mg : Str → Option Value) (tk : Tok) (aST aEN CR CB CF fB fF : Addr) (dB dF : FuncData) : Prop extends Txt K mg tk aST where
  n_abs : mg "abs" = none
  n_all : mg "all" = none
  n_set : mg "set" = none
  n_enumerate : mg "enumerate" = none
  n_max : mg "max" = none
  n_repr : mg "repr" = none
  n_str : mg "str" = none
  c_MOST_SQUARES : mg "MOST_SQUARES" = some (.int 8 (tkO mg "MOST_SQUARES"))
  c_MOST_FINE : mg "MOST_FINE" = some (.int 24 (tkO mg "MOST_FINE"))
  cl_Room : Cls K CR
  no_Room_squares : NoAttr K CR "squares"
  no_Room_shut : NoAttr K CR "shut"
  no_Room_fine : NoAttr K CR "fine"
  no_Room_many : NoAttr K CR "many"
  no_Room_beyond : NoAttr K CR "beyond"
  k_ENDS : KTree K mg "ENDS" aEN dENDS
  i_Room : IsiOk K (.ref CR) (isBC CR true (isBk noB))
  g_Room : mg "Room" = some (.ref CR)
  e_BadRoom : ErrC K mg "BadRoom" CB fB dB "BadRoom.__init__" s_BadRoom_init ["self", "part"]
  e_Misfit : ErrC K mg "Misfit" CF fF dF "Misfit.__init__" s_Misfit_init ["self", "part"]
  np_BadRoom : PySem.W.findIn K (.ref CB) "part" = some none
  np_Misfit : PySem.W.findIn K (.ref CF) "part" = some none
section
variable {P : Program} {w : World} {K : PySem.W.Frag} {mg : Str → Option Value} {base : Heap} {tk : Tok} {aST aEN CR CB CF fB fF : Addr} {dB dF : FuncData}
theorem ok_BadRoom {f : Addr} {fd : FuncData} (E : ErrC K mg "BadRoom" CB f fd "BadRoom.__init__" s_BadRoom_init ["self", "part"]) : FnOk P w K mg base CX0 1 f fd ["self", "part"] (spErr K CB "part") := by
  refine E.F.ok sc_BadRoom_init (fun vs H Q E h => ?_) (fun cdv A outer s H vs Q E hr h => ?_)
  · obtain ⟨a, v, rfl, _⟩ := h
    rfl
  · obtain ⟨a, v, rfl, O, no, ha, q⟩ := h
    refine ⟨_, (pss_one (ps_ost (pv 0) (pv 1) (by rfl))), ?_⟩
    exact ⟨v, rfl, _, rfl, a, CB, rfl, O, no, .inl ⟨ha, fun d nd nda => q d _ nd nda rfl⟩⟩
theorem ok_Misfit {f : Addr} {fd : FuncData} (E : ErrC K mg "Misfit" CF f fd "Misfit.__init__" s_Misfit_init ["self", "part"]) : FnOk P w K mg base CX0 1 f fd ["self", "part"] (spErr K CF "part") := by
  refine E.F.ok sc_Misfit_init (fun vs H Q E h => ?_) (fun cdv A outer s H vs Q E hr h => ?_)
  · obtain ⟨a, v, rfl, _⟩ := h
    rfl
  · obtain ⟨a, v, rfl, O, no, ha, q⟩ := h
    refine ⟨_, (pss_one (ps_ost (pv 0) (pv 1) (by rfl))), ?_⟩
    exact ⟨v, rfl, _, rfl, a, CF, rfl, O, no, .inl ⟨ha, fun d nd nda => q d _ nd nda rfl⟩⟩
abbrev s_side_told : Stmt := topS 23
theorem sc_side_told : FnScope ["value", "squares", "lesser", "greater"] ["value", "squares"] (defScope s_side_told) := ⟨rfl, rfl, rfl, by decide +kernel, rfl, by decide +kernel, by decide +kernel⟩
variable {fI fW fR fP fS : Addr} {dI dW dR dP dS : FuncData}
theorem ok_side_told {f : Addr} {fd : FuncData} (D_is_integer : Df K mg "is_integer" s_is_integer ["value"] fI dI) (D_is_row : Df K mg "is_row" s_is_row ["value"] fR dR) (D_is_point : Df K mg "is_point" s_is_point ["value"] fP dP) (F : Fun K "side_told" "side_told" s_side_told f fd) (T : Txt2 K mg tk aST aEN CR CB CF fB fF dB dF) : FnOk P w K mg base (L2.CX P w) 3 f fd ["value", "squares"] (spV K C_st) := by
  have G_is_row : FnOk P w K mg base (L2.CX P w) 1 fR dR ["value"] (spV K CisR) := ok_is_row D_is_row.F T.toTxt
  have G_is_point : FnOk P w K mg base (L2.CX P w) 2 fP dP ["value"] (spV K CisP) := ok_is_point D_is_integer D_is_row D_is_point.F T.toTxt
  refine con_ok F sc_side_told (fun m t ds Pq pe h => by obtain ⟨_, _, rfl, _⟩ := h; rfl) (fun c pe cdv A outer s H E hK tk hx hr => ⟨_, (vs_cons (vs_if (vt_not (PW.pt (vt_and (vt_val (v_call hK G_is_row (hr.mono (by decide)) (by rfl) D_is_row.m D_is_row.F.kp D_is_row.b hx (va_cons (v_var (pv 0)) va_nil))) (vt_and (vt_cmp (o_eq hK hr.units) w_eq (v_callB (b_len hK) c_len (by rfl) T.n_len (by decide +kernel) (va_cons (v_var (pv 0)) va_nil)) (v_int pe_int) (nomark _)) (vt_and (vt_val (v_call hK G_is_point (hr.mono (by decide)) (by rfl) D_is_point.m D_is_point.F.kp D_is_point.b hx (va_cons (v_ix (o_ix hK) w_ix (v_var (pv 0)) (v_int pe_int) (fun _ _ => rfl)) va_nil))) (vt_and1 (vt_val (v_call hK G_is_point (hr.mono (by decide)) (by rfl) D_is_point.m D_is_point.F.kp D_is_point.b hx (va_cons (v_ix (o_ix hK) w_ix (v_var (pv 0)) (v_int pe_int) (fun _ _ => rfl)) va_nil)))))))))
(vs_one (vs_ret (v_non pe_non)))
vs_nil)
(vs_cons (vs_asg (T := (.tp [(.nm 2), (.nm 3)])) hK (ne_ve (vn_sortL hr.units hK (by rfl) T.n_sorted (ne_ve (vn_lst (va_cons (v_callTy (b_tup hK) c_tup (by rfl) T.n_tuple (by decide +kernel) (va_cons (v_ix (o_ix hK) w_ix (v_var (pv 0)) (v_int pe_int) (fun _ _ => rfl)) va_nil)) (va_cons (v_callTy (b_tup hK) c_tup (by rfl) T.n_tuple (by decide +kernel) (va_cons (v_ix (o_ix hK) w_ix (v_var (pv 0)) (v_int pe_int) (fun _ _ => rfl)) va_nil)) va_nil)))))) (pg_sq (by rfl) (pgs_cons (pg_name (i := 2) sc_side_told.nd rfl (by first | exact Or.inl rfl | exact Or.inr rfl)) (pgs_cons (pg_name (i := 3) sc_side_told.nd rfl (by first | exact Or.inl rfl | exact Or.inr rfl)) pgs_nil))))
(vs_cons (vs_if (PW.pt (vt_or (vt_cmp (o_nin hK hr.units) w_in (v_var (pv 2)) (v_var (pv 1)) (by rfl)) (vt_or1 (vt_cmp (o_nin hK hr.units) w_in (v_var (pv 3)) (v_var (pv 1)) (by rfl)))))
(vs_one (vs_ret (v_non pe_non)))
vs_nil)
(vs_cons (vs_if (vt_cmp (o_ne hK hr.units) w_ne (v_op op_add w_add (v_callB call_abs c_abs (by rfl) T.n_abs (by decide +kernel) (va_cons (v_op op_sub w_sub (v_ix (o_ix hK) w_ix (v_var (pv 3)) (v_int pe_int) (fun _ _ => rfl)) (v_ix (o_ix hK) w_ix (v_var (pv 2)) (v_int pe_int) (fun _ _ => rfl))) va_nil)) (v_callB call_abs c_abs (by rfl) T.n_abs (by decide +kernel) (va_cons (v_op op_sub w_sub (v_ix (o_ix hK) w_ix (v_var (pv 3)) (v_int pe_int) (fun _ _ => rfl)) (v_ix (o_ix hK) w_ix (v_var (pv 2)) (v_int pe_int) (fun _ _ => rfl))) va_nil))) (v_int pe_int) (nomark _))
(vs_one (vs_ret (v_non pe_non)))
vs_nil)
(vs_one (vs_ret (v_tup (va_cons (v_var (pv 2)) (va_cons (v_var (pv 3)) va_nil))))))))), fun t ds Pq h => ?_⟩)
  obtain ⟨v, sq, rfl, ok, q⟩ := h
  simp only [uSeq, later_cons, uNext, uRet, uRetN, uIf, uSet, uSetO, uAsg, uFrz, uFrz1, frzAll, frz1, retE, uVar, uK, u2, wI, cYes, wEq, wIsN, wIx, wMem, uAnd, uOr, uNot, uB, uTAnd, uTOr, uTNot, uRowT, uIte, uChain, uNil, uCons, uLst, uTup, uFld, uSelf, uC, wLen, wTupOf, wI1, wI2, wInt, wBls, wInts, wIsi1, wIsiC, uIsRow, uCall, uCallN, uT, uTs, rowD_lst, rowD_tup, rowD_int, isBk, uRaise, uPar, uParOO, uApp, uExt, uPop, uAug, uNeg, uTIx, wCat, frs0, List.map_cons, List.map_nil, List.getElem?_cons_zero, List.getElem?_cons_succ, List.set_cons_zero, List.set_cons_succ, List.length_cons, List.length_nil, List.nil_append, List.cons_append, Nat.reduceAdd, Nat.reduceSub, List.replicate_zero, List.replicate_succ, isNonD, isFlat, xor_f, xor_t, Bool.true_or, Bool.false_or, Bool.and_true, Bool.true_and, Bool.or_true, Bool.or_false, true_and, and_true, forall_const, true_implies, false_implies, implies_true, Bool.false_eq_true, reduceCtorEq, Option.some.injEq, exists_eq_left, exists_eq_left', kit_tab, exists_and_left, Option.isSome_some, Option.isSome_none, con1, con2, con3, con4, con1E, con2E, con3E, endE, CisI, CisW, CisR, CisP, CisS, atI0, atI1, uSortL, uSortSet, uLenSet, atI2, atI3, uiRow, uiVar, uiRng1, uiRng2, uLc, noOi_fr, noOi_un, noOi_ow, uIxO, List.all_cons, List.all_nil, wipeD, uExpr, uAttr, putD, uMake, uiEnum, initE, iNx, Sl.oi.injEq, and_imp, forall_eq', forall_apply_eq_imp_iff, uM0, uM1, uM2, uMp1, uMp2, eqv_lnil, shp_lnil, shp_ints, retM, uSl, uoN, uoS, wRep, wLtP, uJoin, wRepr, uKwC, wStrO, isSeqD, rowD_P, rowD_S, rowD_Sq, rowD_Sh, tup_P, tup_S, tup_S', lit_sz, shpP60, shpS60, shpsP59, shpsS59, any_P, any_S, any_I, all_P, all_S, tupK_P, tupK_S, alike_two, alike_P, alike_S, optD, shp_int, shp_non, shp_bl, eqv_int, eqv_bl, decide_eq_true_eq, decide_eq_false_iff_not, Bool.not_eq_true', Bool.not_eq_false', Bool.not_true, Bool.not_false, Bool.true_eq_false, Bool.false_eq_true, Bool.and_self]
  refine ⟨ok, ?_⟩
  cases e : rowD v with
  | none =>
    simp only [uSeq, later_cons, uNext, uRet, uRetN, uIf, uSet, uSetO, uAsg, uFrz, uFrz1, frzAll, frz1, retE, uVar, uK, u2, wI, cYes, wEq, wIsN, wIx, wMem, uAnd, uOr, uNot, uB, uTAnd, uTOr, uTNot, uRowT, uIte, uChain, uNil, uCons, uLst, uTup, uFld, uSelf, uC, wLen, wTupOf, wI1, wI2, wInt, wBls, wInts, wIsi1, wIsiC, uIsRow, uCall, uCallN, uT, uTs, rowD_lst, rowD_tup, rowD_int, isBk, uRaise, uPar, uParOO, uApp, uExt, uPop, uAug, uNeg, uTIx, wCat, frs0, List.map_cons, List.map_nil, List.getElem?_cons_zero, List.getElem?_cons_succ, List.set_cons_zero, List.set_cons_succ, List.length_cons, List.length_nil, List.nil_append, List.cons_append, Nat.reduceAdd, Nat.reduceSub, List.replicate_zero, List.replicate_succ, isNonD, isFlat, xor_f, xor_t, Bool.true_or, Bool.false_or, Bool.and_true, Bool.true_and, Bool.or_true, Bool.or_false, true_and, and_true, forall_const, true_implies, false_implies, implies_true, Bool.false_eq_true, reduceCtorEq, Option.some.injEq, exists_eq_left, exists_eq_left', kit_tab, exists_and_left, Option.isSome_some, Option.isSome_none, con1, con2, con3, con4, con1E, con2E, con3E, endE, CisI, CisW, CisR, CisP, CisS, atI0, atI1, uSortL, uSortSet, uLenSet, atI2, atI3, uiRow, uiVar, uiRng1, uiRng2, uLc, noOi_fr, noOi_un, noOi_ow, uIxO, List.all_cons, List.all_nil, wipeD, uExpr, uAttr, putD, uMake, uiEnum, initE, iNx, Sl.oi.injEq, and_imp, forall_eq', forall_apply_eq_imp_iff, uM0, uM1, uM2, uMp1, uMp2, eqv_lnil, shp_lnil, shp_ints, retM, uSl, uoN, uoS, wRep, wLtP, uJoin, wRepr, uKwC, wStrO, isSeqD, sideTold, optS, e] at q ⊢
    exact q
  | some ds =>
    have oka := ok_row ok e
    match ds with
    | [] =>
      simp only [uSeq, later_cons, uNext, uRet, uRetN, uIf, uSet, uSetO, uAsg, uFrz, uFrz1, frzAll, frz1, retE, uVar, uK, u2, wI, cYes, wEq, wIsN, wIx, wMem, uAnd, uOr, uNot, uB, uTAnd, uTOr, uTNot, uRowT, uIte, uChain, uNil, uCons, uLst, uTup, uFld, uSelf, uC, wLen, wTupOf, wI1, wI2, wInt, wBls, wInts, wIsi1, wIsiC, uIsRow, uCall, uCallN, uT, uTs, rowD_lst, rowD_tup, rowD_int, isBk, uRaise, uPar, uParOO, uApp, uExt, uPop, uAug, uNeg, uTIx, wCat, frs0, List.map_cons, List.map_nil, List.getElem?_cons_zero, List.getElem?_cons_succ, List.set_cons_zero, List.set_cons_succ, List.length_cons, List.length_nil, List.nil_append, List.cons_append, Nat.reduceAdd, Nat.reduceSub, List.replicate_zero, List.replicate_succ, isNonD, isFlat, xor_f, xor_t, Bool.true_or, Bool.false_or, Bool.and_true, Bool.true_and, Bool.or_true, Bool.or_false, true_and, and_true, forall_const, true_implies, false_implies, implies_true, Bool.false_eq_true, reduceCtorEq, Option.some.injEq, exists_eq_left, exists_eq_left', kit_tab, exists_and_left, Option.isSome_some, Option.isSome_none, con1, con2, con3, con4, con1E, con2E, con3E, endE, CisI, CisW, CisR, CisP, CisS, atI0, atI1, uSortL, uSortSet, uLenSet, atI2, atI3, uiRow, uiVar, uiRng1, uiRng2, uLc, noOi_fr, noOi_un, noOi_ow, uIxO, List.all_cons, List.all_nil, wipeD, uExpr, uAttr, putD, uMake, uiEnum, initE, iNx, Sl.oi.injEq, and_imp, forall_eq', forall_apply_eq_imp_iff, uM0, uM1, uM2, uMp1, uMp2, eqv_lnil, shp_lnil, shp_ints, retM, uSl, uoN, uoS, wRep, wLtP, uJoin, wRepr, uKwC, wStrO, isSeqD, rowD_P, rowD_S, rowD_Sq, rowD_Sh, tup_P, tup_S, tup_S', lit_sz, shpP60, shpS60, shpsP59, shpsS59, any_P, any_S, any_I, all_P, all_S, tupK_P, tupK_S, alike_two, alike_P, alike_S, optD, shp_int, shp_non, shp_bl, eqv_int, eqv_bl, decide_eq_true_eq, decide_eq_false_iff_not, Bool.not_eq_true', Bool.not_eq_false', Bool.not_true, Bool.not_false, Bool.true_eq_false, Bool.false_eq_true, Bool.and_self, sideTold, optS, e] at q ⊢
      exact ⟨fun h => absurd h (by decide), fun _ => q⟩
    | [x] =>
      simp only [uSeq, later_cons, uNext, uRet, uRetN, uIf, uSet, uSetO, uAsg, uFrz, uFrz1, frzAll, frz1, retE, uVar, uK, u2, wI, cYes, wEq, wIsN, wIx, wMem, uAnd, uOr, uNot, uB, uTAnd, uTOr, uTNot, uRowT, uIte, uChain, uNil, uCons, uLst, uTup, uFld, uSelf, uC, wLen, wTupOf, wI1, wI2, wInt, wBls, wInts, wIsi1, wIsiC, uIsRow, uCall, uCallN, uT, uTs, rowD_lst, rowD_tup, rowD_int, isBk, uRaise, uPar, uParOO, uApp, uExt, uPop, uAug, uNeg, uTIx, wCat, frs0, List.map_cons, List.map_nil, List.getElem?_cons_zero, List.getElem?_cons_succ, List.set_cons_zero, List.set_cons_succ, List.length_cons, List.length_nil, List.nil_append, List.cons_append, Nat.reduceAdd, Nat.reduceSub, List.replicate_zero, List.replicate_succ, isNonD, isFlat, xor_f, xor_t, Bool.true_or, Bool.false_or, Bool.and_true, Bool.true_and, Bool.or_true, Bool.or_false, true_and, and_true, forall_const, true_implies, false_implies, implies_true, Bool.false_eq_true, reduceCtorEq, Option.some.injEq, exists_eq_left, exists_eq_left', kit_tab, exists_and_left, Option.isSome_some, Option.isSome_none, con1, con2, con3, con4, con1E, con2E, con3E, endE, CisI, CisW, CisR, CisP, CisS, atI0, atI1, uSortL, uSortSet, uLenSet, atI2, atI3, uiRow, uiVar, uiRng1, uiRng2, uLc, noOi_fr, noOi_un, noOi_ow, uIxO, List.all_cons, List.all_nil, wipeD, uExpr, uAttr, putD, uMake, uiEnum, initE, iNx, Sl.oi.injEq, and_imp, forall_eq', forall_apply_eq_imp_iff, uM0, uM1, uM2, uMp1, uMp2, eqv_lnil, shp_lnil, shp_ints, retM, uSl, uoN, uoS, wRep, wLtP, uJoin, wRepr, uKwC, wStrO, isSeqD, rowD_P, rowD_S, rowD_Sq, rowD_Sh, tup_P, tup_S, tup_S', lit_sz, shpP60, shpS60, shpsP59, shpsS59, any_P, any_S, any_I, all_P, all_S, tupK_P, tupK_S, alike_two, alike_P, alike_S, optD, shp_int, shp_non, shp_bl, eqv_int, eqv_bl, decide_eq_true_eq, decide_eq_false_iff_not, Bool.not_eq_true', Bool.not_eq_false', Bool.not_true, Bool.not_false, Bool.true_eq_false, Bool.false_eq_true, Bool.and_self, sideTold, optS, e] at q ⊢
      exact ⟨fun h => absurd h (by decide), fun _ => q⟩
    | x :: y :: z :: r =>
      simp only [uSeq, later_cons, uNext, uRet, uRetN, uIf, uSet, uSetO, uAsg, uFrz, uFrz1, frzAll, frz1, retE, uVar, uK, u2, wI, cYes, wEq, wIsN, wIx, wMem, uAnd, uOr, uNot, uB, uTAnd, uTOr, uTNot, uRowT, uIte, uChain, uNil, uCons, uLst, uTup, uFld, uSelf, uC, wLen, wTupOf, wI1, wI2, wInt, wBls, wInts, wIsi1, wIsiC, uIsRow, uCall, uCallN, uT, uTs, rowD_lst, rowD_tup, rowD_int, isBk, uRaise, uPar, uParOO, uApp, uExt, uPop, uAug, uNeg, uTIx, wCat, frs0, List.map_cons, List.map_nil, List.getElem?_cons_zero, List.getElem?_cons_succ, List.set_cons_zero, List.set_cons_succ, List.length_cons, List.length_nil, List.nil_append, List.cons_append, Nat.reduceAdd, Nat.reduceSub, List.replicate_zero, List.replicate_succ, isNonD, isFlat, xor_f, xor_t, Bool.true_or, Bool.false_or, Bool.and_true, Bool.true_and, Bool.or_true, Bool.or_false, true_and, and_true, forall_const, true_implies, false_implies, implies_true, Bool.false_eq_true, reduceCtorEq, Option.some.injEq, exists_eq_left, exists_eq_left', kit_tab, exists_and_left, Option.isSome_some, Option.isSome_none, con1, con2, con3, con4, con1E, con2E, con3E, endE, CisI, CisW, CisR, CisP, CisS, atI0, atI1, uSortL, uSortSet, uLenSet, atI2, atI3, uiRow, uiVar, uiRng1, uiRng2, uLc, noOi_fr, noOi_un, noOi_ow, uIxO, List.all_cons, List.all_nil, wipeD, uExpr, uAttr, putD, uMake, uiEnum, initE, iNx, Sl.oi.injEq, and_imp, forall_eq', forall_apply_eq_imp_iff, uM0, uM1, uM2, uMp1, uMp2, eqv_lnil, shp_lnil, shp_ints, retM, uSl, uoN, uoS, wRep, wLtP, uJoin, wRepr, uKwC, wStrO, isSeqD, rowD_P, rowD_S, rowD_Sq, rowD_Sh, tup_P, tup_S, tup_S', lit_sz, shpP60, shpS60, shpsP59, shpsS59, any_P, any_S, any_I, all_P, all_S, tupK_P, tupK_S, alike_two, alike_P, alike_S, optD, shp_int, shp_non, shp_bl, eqv_int, eqv_bl, decide_eq_true_eq, decide_eq_false_iff_not, Bool.not_eq_true', Bool.not_eq_false', Bool.not_true, Bool.not_false, Bool.true_eq_false, Bool.false_eq_true, Bool.and_self, sideTold, optS, e] at q ⊢
      exact ⟨fun h => absurd h (by simp only [List.length_cons, beqI, decide_eq_true_eq]; omega), fun _ => q⟩
    | [x, y] =>
      simp only [List.all_cons, List.all_nil, Bool.and_true, Bool.and_eq_true] at oka
      simp only [uSeq, later_cons, uNext, uRet, uRetN, uIf, uSet, uSetO, uAsg, uFrz, uFrz1, frzAll, frz1, retE, uVar, uK, u2, wI, cYes, wEq, wIsN, wIx, wMem, uAnd, uOr, uNot, uB, uTAnd, uTOr, uTNot, uRowT, uIte, uChain, uNil, uCons, uLst, uTup, uFld, uSelf, uC, wLen, wTupOf, wI1, wI2, wInt, wBls, wInts, wIsi1, wIsiC, uIsRow, uCall, uCallN, uT, uTs, rowD_lst, rowD_tup, rowD_int, isBk, uRaise, uPar, uParOO, uApp, uExt, uPop, uAug, uNeg, uTIx, wCat, frs0, List.map_cons, List.map_nil, List.getElem?_cons_zero, List.getElem?_cons_succ, List.set_cons_zero, List.set_cons_succ, List.length_cons, List.length_nil, List.nil_append, List.cons_append, Nat.reduceAdd, Nat.reduceSub, List.replicate_zero, List.replicate_succ, isNonD, isFlat, xor_f, xor_t, Bool.true_or, Bool.false_or, Bool.and_true, Bool.true_and, Bool.or_true, Bool.or_false, true_and, and_true, forall_const, true_implies, false_implies, implies_true, Bool.false_eq_true, reduceCtorEq, Option.some.injEq, exists_eq_left, exists_eq_left', kit_tab, exists_and_left, Option.isSome_some, Option.isSome_none, con1, con2, con3, con4, con1E, con2E, con3E, endE, CisI, CisW, CisR, CisP, CisS, atI0, atI1, uSortL, uSortSet, uLenSet, atI2, atI3, uiRow, uiVar, uiRng1, uiRng2, uLc, noOi_fr, noOi_un, noOi_ow, uIxO, List.all_cons, List.all_nil, wipeD, uExpr, uAttr, putD, uMake, uiEnum, initE, iNx, Sl.oi.injEq, and_imp, forall_eq', forall_apply_eq_imp_iff, uM0, uM1, uM2, uMp1, uMp2, eqv_lnil, shp_lnil, shp_ints, retM, uSl, uoN, uoS, wRep, wLtP, uJoin, wRepr, uKwC, wStrO, isSeqD, rowD_P, rowD_S, rowD_Sq, rowD_Sh, tup_P, tup_S, tup_S', lit_sz, shpP60, shpS60, shpsP59, shpsS59, any_P, any_S, any_I, all_P, all_S, tupK_P, tupK_S, alike_two, alike_P, alike_S, optD, shp_int, shp_non, shp_bl, eqv_int, eqv_bl, decide_eq_true_eq, decide_eq_false_iff_not, Bool.not_eq_true', Bool.not_eq_false', Bool.not_true, Bool.not_false, Bool.true_eq_false, Bool.false_eq_true, Bool.and_self, sideTold, e, isPt_pt] at q ⊢
      refine ⟨fun _ => ⟨oka.1, ?_⟩, fun z => absurd z (by decide)⟩
      cases e1 : ptD x with
      | none =>
        simp only [uSeq, later_cons, uNext, uRet, uRetN, uIf, uSet, uSetO, uAsg, uFrz, uFrz1, frzAll, frz1, retE, uVar, uK, u2, wI, cYes, wEq, wIsN, wIx, wMem, uAnd, uOr, uNot, uB, uTAnd, uTOr, uTNot, uRowT, uIte, uChain, uNil, uCons, uLst, uTup, uFld, uSelf, uC, wLen, wTupOf, wI1, wI2, wInt, wBls, wInts, wIsi1, wIsiC, uIsRow, uCall, uCallN, uT, uTs, rowD_lst, rowD_tup, rowD_int, isBk, uRaise, uPar, uParOO, uApp, uExt, uPop, uAug, uNeg, uTIx, wCat, frs0, List.map_cons, List.map_nil, List.getElem?_cons_zero, List.getElem?_cons_succ, List.set_cons_zero, List.set_cons_succ, List.length_cons, List.length_nil, List.nil_append, List.cons_append, Nat.reduceAdd, Nat.reduceSub, List.replicate_zero, List.replicate_succ, isNonD, isFlat, xor_f, xor_t, Bool.true_or, Bool.false_or, Bool.and_true, Bool.true_and, Bool.or_true, Bool.or_false, true_and, and_true, forall_const, true_implies, false_implies, implies_true, Bool.false_eq_true, reduceCtorEq, Option.some.injEq, exists_eq_left, exists_eq_left', kit_tab, exists_and_left, Option.isSome_some, Option.isSome_none, con1, con2, con3, con4, con1E, con2E, con3E, endE, CisI, CisW, CisR, CisP, CisS, atI0, atI1, uSortL, uSortSet, uLenSet, atI2, atI3, uiRow, uiVar, uiRng1, uiRng2, uLc, noOi_fr, noOi_un, noOi_ow, uIxO, List.all_cons, List.all_nil, wipeD, uExpr, uAttr, putD, uMake, uiEnum, initE, iNx, Sl.oi.injEq, and_imp, forall_eq', forall_apply_eq_imp_iff, uM0, uM1, uM2, uMp1, uMp2, eqv_lnil, shp_lnil, shp_ints, retM, uSl, uoN, uoS, wRep, wLtP, uJoin, wRepr, uKwC, wStrO, isSeqD, rowD_P, rowD_S, rowD_Sq, rowD_Sh, tup_P, tup_S, tup_S', lit_sz, shpP60, shpS60, shpsP59, shpsS59, any_P, any_S, any_I, all_P, all_S, tupK_P, tupK_S, alike_two, alike_P, alike_S, optD, shp_int, shp_non, shp_bl, eqv_int, eqv_bl, decide_eq_true_eq, decide_eq_false_iff_not, Bool.not_eq_true', Bool.not_eq_false', Bool.not_true, Bool.not_false, Bool.true_eq_false, Bool.false_eq_true, Bool.and_self, e1, optS] at q ⊢
        exact q
      | some p1 =>
        simp only [uSeq, later_cons, uNext, uRet, uRetN, uIf, uSet, uSetO, uAsg, uFrz, uFrz1, frzAll, frz1, retE, uVar, uK, u2, wI, cYes, wEq, wIsN, wIx, wMem, uAnd, uOr, uNot, uB, uTAnd, uTOr, uTNot, uRowT, uIte, uChain, uNil, uCons, uLst, uTup, uFld, uSelf, uC, wLen, wTupOf, wI1, wI2, wInt, wBls, wInts, wIsi1, wIsiC, uIsRow, uCall, uCallN, uT, uTs, rowD_lst, rowD_tup, rowD_int, isBk, uRaise, uPar, uParOO, uApp, uExt, uPop, uAug, uNeg, uTIx, wCat, frs0, List.map_cons, List.map_nil, List.getElem?_cons_zero, List.getElem?_cons_succ, List.set_cons_zero, List.set_cons_succ, List.length_cons, List.length_nil, List.nil_append, List.cons_append, Nat.reduceAdd, Nat.reduceSub, List.replicate_zero, List.replicate_succ, isNonD, isFlat, xor_f, xor_t, Bool.true_or, Bool.false_or, Bool.and_true, Bool.true_and, Bool.or_true, Bool.or_false, true_and, and_true, forall_const, true_implies, false_implies, implies_true, Bool.false_eq_true, reduceCtorEq, Option.some.injEq, exists_eq_left, exists_eq_left', kit_tab, exists_and_left, Option.isSome_some, Option.isSome_none, con1, con2, con3, con4, con1E, con2E, con3E, endE, CisI, CisW, CisR, CisP, CisS, atI0, atI1, uSortL, uSortSet, uLenSet, atI2, atI3, uiRow, uiVar, uiRng1, uiRng2, uLc, noOi_fr, noOi_un, noOi_ow, uIxO, List.all_cons, List.all_nil, wipeD, uExpr, uAttr, putD, uMake, uiEnum, initE, iNx, Sl.oi.injEq, and_imp, forall_eq', forall_apply_eq_imp_iff, uM0, uM1, uM2, uMp1, uMp2, eqv_lnil, shp_lnil, shp_ints, retM, uSl, uoN, uoS, wRep, wLtP, uJoin, wRepr, uKwC, wStrO, isSeqD, rowD_P, rowD_S, rowD_Sq, rowD_Sh, tup_P, tup_S, tup_S', lit_sz, shpP60, shpS60, shpsP59, shpsS59, any_P, any_S, any_I, all_P, all_S, tupK_P, tupK_S, alike_two, alike_P, alike_S, optD, shp_int, shp_non, shp_bl, eqv_int, eqv_bl, decide_eq_true_eq, decide_eq_false_iff_not, Bool.not_eq_true', Bool.not_eq_false', Bool.not_true, Bool.not_false, Bool.true_eq_false, Bool.false_eq_true, Bool.and_self, e1] at q ⊢
        refine ⟨oka.2, ?_⟩
        cases e2 : ptD y with
        | none =>
          simp only [uSeq, later_cons, uNext, uRet, uRetN, uIf, uSet, uSetO, uAsg, uFrz, uFrz1, frzAll, frz1, retE, uVar, uK, u2, wI, cYes, wEq, wIsN, wIx, wMem, uAnd, uOr, uNot, uB, uTAnd, uTOr, uTNot, uRowT, uIte, uChain, uNil, uCons, uLst, uTup, uFld, uSelf, uC, wLen, wTupOf, wI1, wI2, wInt, wBls, wInts, wIsi1, wIsiC, uIsRow, uCall, uCallN, uT, uTs, rowD_lst, rowD_tup, rowD_int, isBk, uRaise, uPar, uParOO, uApp, uExt, uPop, uAug, uNeg, uTIx, wCat, frs0, List.map_cons, List.map_nil, List.getElem?_cons_zero, List.getElem?_cons_succ, List.set_cons_zero, List.set_cons_succ, List.length_cons, List.length_nil, List.nil_append, List.cons_append, Nat.reduceAdd, Nat.reduceSub, List.replicate_zero, List.replicate_succ, isNonD, isFlat, xor_f, xor_t, Bool.true_or, Bool.false_or, Bool.and_true, Bool.true_and, Bool.or_true, Bool.or_false, true_and, and_true, forall_const, true_implies, false_implies, implies_true, Bool.false_eq_true, reduceCtorEq, Option.some.injEq, exists_eq_left, exists_eq_left', kit_tab, exists_and_left, Option.isSome_some, Option.isSome_none, con1, con2, con3, con4, con1E, con2E, con3E, endE, CisI, CisW, CisR, CisP, CisS, atI0, atI1, uSortL, uSortSet, uLenSet, atI2, atI3, uiRow, uiVar, uiRng1, uiRng2, uLc, noOi_fr, noOi_un, noOi_ow, uIxO, List.all_cons, List.all_nil, wipeD, uExpr, uAttr, putD, uMake, uiEnum, initE, iNx, Sl.oi.injEq, and_imp, forall_eq', forall_apply_eq_imp_iff, uM0, uM1, uM2, uMp1, uMp2, eqv_lnil, shp_lnil, shp_ints, retM, uSl, uoN, uoS, wRep, wLtP, uJoin, wRepr, uKwC, wStrO, isSeqD, rowD_P, rowD_S, rowD_Sq, rowD_Sh, tup_P, tup_S, tup_S', lit_sz, shpP60, shpS60, shpsP59, shpsS59, any_P, any_S, any_I, all_P, all_S, tupK_P, tupK_S, alike_two, alike_P, alike_S, optD, shp_int, shp_non, shp_bl, eqv_int, eqv_bl, decide_eq_true_eq, decide_eq_false_iff_not, Bool.not_eq_true', Bool.not_eq_false', Bool.not_true, Bool.not_false, Bool.true_eq_false, Bool.false_eq_true, Bool.and_self, e2, optS] at q ⊢
          exact q
        | some p2 =>
          simp only [uSeq, later_cons, uNext, uRet, uRetN, uIf, uSet, uSetO, uAsg, uFrz, uFrz1, frzAll, frz1, retE, uVar, uK, u2, wI, cYes, wEq, wIsN, wIx, wMem, uAnd, uOr, uNot, uB, uTAnd, uTOr, uTNot, uRowT, uIte, uChain, uNil, uCons, uLst, uTup, uFld, uSelf, uC, wLen, wTupOf, wI1, wI2, wInt, wBls, wInts, wIsi1, wIsiC, uIsRow, uCall, uCallN, uT, uTs, rowD_lst, rowD_tup, rowD_int, isBk, uRaise, uPar, uParOO, uApp, uExt, uPop, uAug, uNeg, uTIx, wCat, frs0, List.map_cons, List.map_nil, List.getElem?_cons_zero, List.getElem?_cons_succ, List.set_cons_zero, List.set_cons_succ, List.length_cons, List.length_nil, List.nil_append, List.cons_append, Nat.reduceAdd, Nat.reduceSub, List.replicate_zero, List.replicate_succ, isNonD, isFlat, xor_f, xor_t, Bool.true_or, Bool.false_or, Bool.and_true, Bool.true_and, Bool.or_true, Bool.or_false, true_and, and_true, forall_const, true_implies, false_implies, implies_true, Bool.false_eq_true, reduceCtorEq, Option.some.injEq, exists_eq_left, exists_eq_left', kit_tab, exists_and_left, Option.isSome_some, Option.isSome_none, con1, con2, con3, con4, con1E, con2E, con3E, endE, CisI, CisW, CisR, CisP, CisS, atI0, atI1, uSortL, uSortSet, uLenSet, atI2, atI3, uiRow, uiVar, uiRng1, uiRng2, uLc, noOi_fr, noOi_un, noOi_ow, uIxO, List.all_cons, List.all_nil, wipeD, uExpr, uAttr, putD, uMake, uiEnum, initE, iNx, Sl.oi.injEq, and_imp, forall_eq', forall_apply_eq_imp_iff, uM0, uM1, uM2, uMp1, uMp2, eqv_lnil, shp_lnil, shp_ints, retM, uSl, uoN, uoS, wRep, wLtP, uJoin, wRepr, uKwC, wStrO, isSeqD, rowD_P, rowD_S, rowD_Sq, rowD_Sh, tup_P, tup_S, tup_S', lit_sz, shpP60, shpS60, shpsP59, shpsS59, any_P, any_S, any_I, all_P, all_S, tupK_P, tupK_S, alike_two, alike_P, alike_S, optD, shp_int, shp_non, shp_bl, eqv_int, eqv_bl, decide_eq_true_eq, decide_eq_false_iff_not, Bool.not_eq_true', Bool.not_eq_false', Bool.not_true, Bool.not_false, Bool.true_eq_false, Bool.false_eq_true, Bool.and_self, e2] at q ⊢
          rcases sqD_tup e1 with rfl | rfl <;> rcases sqD_tup e2 with rfl | rfl
          all_goals dsimp only
          all_goals simp only [uSeq, later_cons, uNext, uRet, uRetN, uIf, uSet, uSetO, uAsg, uFrz, uFrz1, frzAll, frz1, retE, uVar, uK, u2, wI, cYes, wEq, wIsN, wIx, wMem, uAnd, uOr, uNot, uB, uTAnd, uTOr, uTNot, uRowT, uIte, uChain, uNil, uCons, uLst, uTup, uFld, uSelf, uC, wLen, wTupOf, wI1, wI2, wInt, wBls, wInts, wIsi1, wIsiC, uIsRow, uCall, uCallN, uT, uTs, rowD_lst, rowD_tup, rowD_int, isBk, uRaise, uPar, uParOO, uApp, uExt, uPop, uAug, uNeg, uTIx, wCat, frs0, List.map_cons, List.map_nil, List.getElem?_cons_zero, List.getElem?_cons_succ, List.set_cons_zero, List.set_cons_succ, List.length_cons, List.length_nil, List.nil_append, List.cons_append, Nat.reduceAdd, Nat.reduceSub, List.replicate_zero, List.replicate_succ, isNonD, isFlat, xor_f, xor_t, Bool.true_or, Bool.false_or, Bool.and_true, Bool.true_and, Bool.or_true, Bool.or_false, true_and, and_true, forall_const, true_implies, false_implies, implies_true, Bool.false_eq_true, reduceCtorEq, Option.some.injEq, exists_eq_left, exists_eq_left', kit_tab, exists_and_left, Option.isSome_some, Option.isSome_none, con1, con2, con3, con4, con1E, con2E, con3E, endE, CisI, CisW, CisR, CisP, CisS, atI0, atI1, uSortL, uSortSet, uLenSet, atI2, atI3, uiRow, uiVar, uiRng1, uiRng2, uLc, noOi_fr, noOi_un, noOi_ow, uIxO, List.all_cons, List.all_nil, wipeD, uExpr, uAttr, putD, uMake, uiEnum, initE, iNx, Sl.oi.injEq, and_imp, forall_eq', forall_apply_eq_imp_iff, uM0, uM1, uM2, uMp1, uMp2, eqv_lnil, shp_lnil, shp_ints, retM, uSl, uoN, uoS, wRep, wLtP, uJoin, wRepr, uKwC, wStrO, isSeqD, rowD_P, rowD_S, rowD_Sq, rowD_Sh, tup_P, tup_S, tup_S', lit_sz, shpP60, shpS60, shpsP59, shpsS59, any_P, any_S, any_I, all_P, all_S, tupK_P, tupK_S, alike_two, alike_P, alike_S, optD, shp_int, shp_non, shp_bl, eqv_int, eqv_bl, decide_eq_true_eq, decide_eq_false_iff_not, Bool.not_eq_true', Bool.not_eq_false', Bool.not_true, Bool.not_false, Bool.true_eq_false, Bool.false_eq_true, Bool.and_self]
          all_goals refine fun M pm sr => ?_
          all_goals have eM := sort_two pm sr
          all_goals subst eM
          all_goals simp only [uSeq, later_cons, uNext, uRet, uRetN, uIf, uSet, uSetO, uAsg, uFrz, uFrz1, frzAll, frz1, retE, uVar, uK, u2, wI, cYes, wEq, wIsN, wIx, wMem, uAnd, uOr, uNot, uB, uTAnd, uTOr, uTNot, uRowT, uIte, uChain, uNil, uCons, uLst, uTup, uFld, uSelf, uC, wLen, wTupOf, wI1, wI2, wInt, wBls, wInts, wIsi1, wIsiC, uIsRow, uCall, uCallN, uT, uTs, rowD_lst, rowD_tup, rowD_int, isBk, uRaise, uPar, uParOO, uApp, uExt, uPop, uAug, uNeg, uTIx, wCat, frs0, List.map_cons, List.map_nil, List.getElem?_cons_zero, List.getElem?_cons_succ, List.set_cons_zero, List.set_cons_succ, List.length_cons, List.length_nil, List.nil_append, List.cons_append, Nat.reduceAdd, Nat.reduceSub, List.replicate_zero, List.replicate_succ, isNonD, isFlat, xor_f, xor_t, Bool.true_or, Bool.false_or, Bool.and_true, Bool.true_and, Bool.or_true, Bool.or_false, true_and, and_true, forall_const, true_implies, false_implies, implies_true, Bool.false_eq_true, reduceCtorEq, Option.some.injEq, exists_eq_left, exists_eq_left', kit_tab, exists_and_left, Option.isSome_some, Option.isSome_none, con1, con2, con3, con4, con1E, con2E, con3E, endE, CisI, CisW, CisR, CisP, CisS, atI0, atI1, uSortL, uSortSet, uLenSet, atI2, atI3, uiRow, uiVar, uiRng1, uiRng2, uLc, noOi_fr, noOi_un, noOi_ow, uIxO, List.all_cons, List.all_nil, wipeD, uExpr, uAttr, putD, uMake, uiEnum, initE, iNx, Sl.oi.injEq, and_imp, forall_eq', forall_apply_eq_imp_iff, uM0, uM1, uM2, uMp1, uMp2, eqv_lnil, shp_lnil, shp_ints, retM, uSl, uoN, uoS, wRep, wLtP, uJoin, wRepr, uKwC, wStrO, isSeqD, rowD_P, rowD_S, rowD_Sq, rowD_Sh, tup_P, tup_S, tup_S', lit_sz, shpP60, shpS60, shpsP59, shpsS59, any_P, any_S, any_I, all_P, all_S, tupK_P, tupK_S, alike_two, alike_P, alike_S, optD, shp_int, shp_non, shp_bl, eqv_int, eqv_bl, decide_eq_true_eq, decide_eq_false_iff_not, Bool.not_eq_true', Bool.not_eq_false', Bool.not_true, Bool.not_false, Bool.true_eq_false, Bool.false_eq_true, Bool.and_self]
          all_goals exact st_fin rfl q
abbrev s__squares_told : Stmt := topS 26
theorem sc__squares_told : FnScope ["value", "square", "squares"] ["value"] (defScope s__squares_told) := ⟨rfl, rfl, rfl, by decide +kernel, rfl, by decide +kernel, by decide +kernel⟩
theorem ok__squares_told {f : Addr} {fd : FuncData} (D_is_integer : Df K mg "is_integer" s_is_integer ["value"] fI dI) (D_is_within : Df K mg "is_within" s_is_within ["value", "least", "most"] fW dW) (D_is_row : Df K mg "is_row" s_is_row ["value"] fR dR) (D_is_point : Df K mg "is_point" s_is_point ["value"] fP dP) (D_is_square : Df K mg "is_square" s_is_square ["value"] fS dS) (F : Fun K "_squares_told" "_squares_told" s__squares_told f fd) (T : Txt2 K mg tk aST aEN CR CB CF fB fF dB dF) : FnOk P w K mg base (L2.CX P w) 4 f fd ["value"] (spV K (C_sqt CB)) := by
  have G_is_row : FnOk P w K mg base (L2.CX P w) 1 fR dR ["value"] (spV K CisR) := ok_is_row D_is_row.F T.toTxt
  have G_is_square : FnOk P w K mg base (L2.CX P w) 3 fS dS ["value"] (spV K CisS) := ok_is_square D_is_integer D_is_row D_is_within D_is_point D_is_square.F T.toTxt
  have GE_BadRoom := ok_BadRoom (P := P) (w := w) (base := base) T.e_BadRoom
  refine con_ok F sc__squares_told (fun m t ds Pq pe h => by obtain ⟨_, rfl, _⟩ := h; rfl) (fun c pe cdv A outer s H E hK tk hx hr => ⟨_, (vs_cons (vs_if (vt_not (PW.pt (vt_and (vt_val (v_call hK G_is_row (hr.mono (by decide)) (by rfl) D_is_row.m D_is_row.F.kp D_is_row.b hx (va_cons (v_var (pv 0)) va_nil))) (vt_and (vt_chain op_le w_le op_le w_le (v_int pe_int) (v_callB (b_len hK) c_len (by rfl) T.n_len (by decide +kernel) (va_cons (v_var (pv 0)) va_nil)) (v_int (pe_glob (v := .int _) (by rfl) T.c_MOST_SQUARES ⟨_, rfl⟩))) (vt_and1 (vt_val (v_callB (b_all hK rfl) c_all (by rfl) T.n_all (by decide +kernel) (va_cons (ne_ve (vn_lc hK (by rfl) sc__squares_told.nd (T := (.nm 1)) (own := [(("square" : Str), 1)]) (by decide) (vi_var (i := 0) hK (pv 0)) (blkOk_by (N := ["value", "square", "squares"]) (sc := defScope s__squares_told) (by decide +kernel)) (fun _ _ _ _ _ => (pg_name (i := 1) sc__squares_told.nd rfl (by first | exact Or.inl rfl | exact Or.inr rfl))) (fun _ _ _ _ _ => vts_nil) (fun _ _ _ _ _ => (v_call hK G_is_square (hr.mono (by decide)) (by rfl) D_is_square.m D_is_square.F.kp D_is_square.b (passF fun _ _ z => z) (va_cons (v_var (pv 1)) va_nil))))) va_nil))))))))
(vs_one (vs_raise (f := "part") hK rfl tk T.e_BadRoom GE_BadRoom T.np_BadRoom (hr.mono (by decide)) (by rfl) (v_str pe_str)))
vs_nil)
(vs_cons (vs_set (i := 2) sc__squares_told.nd rfl (by first | exact Or.inl rfl | exact Or.inr rfl) (ne_ve (vn_sortSet (by rfl) hr.units hK (by rfl) T.n_sorted (by rfl) T.n_set (ne_ve (vn_lc hK (by rfl) sc__squares_told.nd (T := (.nm 1)) (own := [(("square" : Str), 1)]) (by decide) (vi_var (i := 0) hK (pv 0)) (blkOk_by (N := ["value", "square", "squares"]) (sc := defScope s__squares_told) (by decide +kernel)) (fun _ _ _ _ _ => (pg_name (i := 1) sc__squares_told.nd rfl (by first | exact Or.inl rfl | exact Or.inr rfl))) (fun _ _ _ _ _ => vts_nil) (fun _ _ _ _ _ => (v_callTy (b_tup hK) c_tup (by rfl) T.n_tuple (by decide +kernel) (va_cons (v_var (pv 1)) va_nil))))))))
(vs_cons (vs_if (vt_cmp op_lt w_lt (v_callB (b_len hK) c_len (by rfl) T.n_len (by decide +kernel) (va_cons (v_var (pv 2)) va_nil)) (v_callB (b_len hK) c_len (by rfl) T.n_len (by decide +kernel) (va_cons (v_var (pv 0)) va_nil)) (nomark _))
(vs_one (vs_raise (f := "part") hK rfl tk T.e_BadRoom GE_BadRoom T.np_BadRoom (hr.mono (by decide)) (by rfl) (v_str pe_str)))
vs_nil)
(vs_one (vs_ret (v_callTy (b_tup hK) c_tup (by rfl) T.n_tuple (by decide +kernel) (va_cons (v_var (pv 2)) va_nil))))))), fun t ds Pq h => ?_⟩)
  obtain ⟨v, rfl, ok, q⟩ := h
  simp only [uSeq, later_cons, uNext, uRet, uRetN, uIf, uSet, uSetO, uAsg, uFrz, uFrz1, frzAll, frz1, retE, uVar, uK, u2, wI, cYes, wEq, wIsN, wIx, wMem, uAnd, uOr, uNot, uB, uTAnd, uTOr, uTNot, uRowT, uIte, uChain, uNil, uCons, uLst, uTup, uFld, uSelf, uC, wLen, wTupOf, wI1, wI2, wInt, wBls, wInts, wIsi1, wIsiC, uIsRow, uCall, uCallN, uT, uTs, rowD_lst, rowD_tup, rowD_int, isBk, uRaise, uPar, uParOO, uApp, uExt, uPop, uAug, uNeg, uTIx, wCat, frs0, List.map_cons, List.map_nil, List.getElem?_cons_zero, List.getElem?_cons_succ, List.set_cons_zero, List.set_cons_succ, List.length_cons, List.length_nil, List.nil_append, List.cons_append, Nat.reduceAdd, Nat.reduceSub, List.replicate_zero, List.replicate_succ, isNonD, isFlat, xor_f, xor_t, Bool.true_or, Bool.false_or, Bool.and_true, Bool.true_and, Bool.or_true, Bool.or_false, true_and, and_true, forall_const, true_implies, false_implies, implies_true, Bool.false_eq_true, reduceCtorEq, Option.some.injEq, exists_eq_left, exists_eq_left', kit_tab, exists_and_left, Option.isSome_some, Option.isSome_none, con1, con2, con3, con4, con1E, con2E, con3E, endE, CisI, CisW, CisR, CisP, CisS, atI0, atI1, uSortL, uSortSet, uLenSet, atI2, atI3, uiRow, uiVar, uiRng1, uiRng2, uLc, noOi_fr, noOi_un, noOi_ow, uIxO, List.all_cons, List.all_nil, wipeD, uExpr, uAttr, putD, uMake, uiEnum, initE, iNx, Sl.oi.injEq, and_imp, forall_eq', forall_apply_eq_imp_iff, uM0, uM1, uM2, uMp1, uMp2, eqv_lnil, shp_lnil, shp_ints, retM, uSl, uoN, uoS, wRep, wLtP, uJoin, wRepr, uKwC, wStrO, isSeqD, rowD_P, rowD_S, rowD_Sq, rowD_Sh, tup_P, tup_S, tup_S', lit_sz, shpP60, shpS60, shpsP59, shpsS59, any_P, any_S, any_I, all_P, all_S, tupK_P, tupK_S, alike_two, alike_P, alike_S, optD, shp_int, shp_non, shp_bl, eqv_int, eqv_bl, decide_eq_true_eq, decide_eq_false_iff_not, Bool.not_eq_true', Bool.not_eq_false', Bool.not_true, Bool.not_false, Bool.true_eq_false, Bool.false_eq_true, Bool.and_self]
  refine ⟨ok, ?_⟩
  cases e : rowD v with
  | none =>
    simp only [uSeq, later_cons, uNext, uRet, uRetN, uIf, uSet, uSetO, uAsg, uFrz, uFrz1, frzAll, frz1, retE, uVar, uK, u2, wI, cYes, wEq, wIsN, wIx, wMem, uAnd, uOr, uNot, uB, uTAnd, uTOr, uTNot, uRowT, uIte, uChain, uNil, uCons, uLst, uTup, uFld, uSelf, uC, wLen, wTupOf, wI1, wI2, wInt, wBls, wInts, wIsi1, wIsiC, uIsRow, uCall, uCallN, uT, uTs, rowD_lst, rowD_tup, rowD_int, isBk, uRaise, uPar, uParOO, uApp, uExt, uPop, uAug, uNeg, uTIx, wCat, frs0, List.map_cons, List.map_nil, List.getElem?_cons_zero, List.getElem?_cons_succ, List.set_cons_zero, List.set_cons_succ, List.length_cons, List.length_nil, List.nil_append, List.cons_append, Nat.reduceAdd, Nat.reduceSub, List.replicate_zero, List.replicate_succ, isNonD, isFlat, xor_f, xor_t, Bool.true_or, Bool.false_or, Bool.and_true, Bool.true_and, Bool.or_true, Bool.or_false, true_and, and_true, forall_const, true_implies, false_implies, implies_true, Bool.false_eq_true, reduceCtorEq, Option.some.injEq, exists_eq_left, exists_eq_left', kit_tab, exists_and_left, Option.isSome_some, Option.isSome_none, con1, con2, con3, con4, con1E, con2E, con3E, endE, CisI, CisW, CisR, CisP, CisS, atI0, atI1, uSortL, uSortSet, uLenSet, atI2, atI3, uiRow, uiVar, uiRng1, uiRng2, uLc, noOi_fr, noOi_un, noOi_ow, uIxO, List.all_cons, List.all_nil, wipeD, uExpr, uAttr, putD, uMake, uiEnum, initE, iNx, Sl.oi.injEq, and_imp, forall_eq', forall_apply_eq_imp_iff, uM0, uM1, uM2, uMp1, uMp2, eqv_lnil, shp_lnil, shp_ints, retM, uSl, uoN, uoS, wRep, wLtP, uJoin, wRepr, uKwC, wStrO, isSeqD, sqsTold, e] at q ⊢
    exact q
  | some ds =>
    have oka := ok_row ok e
    simp only [uSeq, later_cons, uNext, uRet, uRetN, uIf, uSet, uSetO, uAsg, uFrz, uFrz1, frzAll, frz1, retE, uVar, uK, u2, wI, cYes, wEq, wIsN, wIx, wMem, uAnd, uOr, uNot, uB, uTAnd, uTOr, uTNot, uRowT, uIte, uChain, uNil, uCons, uLst, uTup, uFld, uSelf, uC, wLen, wTupOf, wI1, wI2, wInt, wBls, wInts, wIsi1, wIsiC, uIsRow, uCall, uCallN, uT, uTs, rowD_lst, rowD_tup, rowD_int, isBk, uRaise, uPar, uParOO, uApp, uExt, uPop, uAug, uNeg, uTIx, wCat, frs0, List.map_cons, List.map_nil, List.getElem?_cons_zero, List.getElem?_cons_succ, List.set_cons_zero, List.set_cons_succ, List.length_cons, List.length_nil, List.nil_append, List.cons_append, Nat.reduceAdd, Nat.reduceSub, List.replicate_zero, List.replicate_succ, isNonD, isFlat, xor_f, xor_t, Bool.true_or, Bool.false_or, Bool.and_true, Bool.true_and, Bool.or_true, Bool.or_false, true_and, and_true, forall_const, true_implies, false_implies, implies_true, Bool.false_eq_true, reduceCtorEq, Option.some.injEq, exists_eq_left, exists_eq_left', kit_tab, exists_and_left, Option.isSome_some, Option.isSome_none, con1, con2, con3, con4, con1E, con2E, con3E, endE, CisI, CisW, CisR, CisP, CisS, atI0, atI1, uSortL, uSortSet, uLenSet, atI2, atI3, uiRow, uiVar, uiRng1, uiRng2, uLc, noOi_fr, noOi_un, noOi_ow, uIxO, List.all_cons, List.all_nil, wipeD, uExpr, uAttr, putD, uMake, uiEnum, initE, iNx, Sl.oi.injEq, and_imp, forall_eq', forall_apply_eq_imp_iff, uM0, uM1, uM2, uMp1, uMp2, eqv_lnil, shp_lnil, shp_ints, retM, uSl, uoN, uoS, wRep, wLtP, uJoin, wRepr, uKwC, wStrO, isSeqD, rowD_P, rowD_S, rowD_Sq, rowD_Sh, tup_P, tup_S, tup_S', lit_sz, shpP60, shpS60, shpsP59, shpsS59, any_P, any_S, any_I, all_P, all_S, tupK_P, tupK_S, alike_two, alike_P, alike_S, optD, shp_int, shp_non, shp_bl, eqv_int, eqv_bl, decide_eq_true_eq, decide_eq_false_iff_not, Bool.not_eq_true', Bool.not_eq_false', Bool.not_true, Bool.not_false, Bool.true_eq_false, Bool.false_eq_true, Bool.and_self, sqsTold, e] at q ⊢
    have err : (∀ ps, allO sqD ds = some ps → ¬ (1 ≤ ps.length ∧ ps.length ≤ 8 ∧ ps.Nodup)) → pe t (exP CB "squares") := fun h => by
      cases e2 : allO sqD ds with
      | none => rw [e2] at q; exact q
      | some ps =>
        rw [e2] at q
        dsimp only at q
        rw [if_neg (h ps e2)] at q
        exact q
    refine ⟨fun l1 => ⟨fun l2 => ⟨by rw [sizeLine_eq]; omega, lcG_map0 (fun d => .bl (isSq d)) (fun d hd Kk hq => ?_) ?_⟩, fun l2 => err fun ps h => ?_⟩, fun l1 => err fun ps h => ?_⟩
    · simp only [uSeq, later_cons, uNext, uRet, uRetN, uIf, uSet, uSetO, uAsg, uFrz, uFrz1, frzAll, frz1, retE, uVar, uK, u2, wI, cYes, wEq, wIsN, wIx, wMem, uAnd, uOr, uNot, uB, uTAnd, uTOr, uTNot, uRowT, uIte, uChain, uNil, uCons, uLst, uTup, uFld, uSelf, uC, wLen, wTupOf, wI1, wI2, wInt, wBls, wInts, wIsi1, wIsiC, uIsRow, uCall, uCallN, uT, uTs, rowD_lst, rowD_tup, rowD_int, isBk, uRaise, uPar, uParOO, uApp, uExt, uPop, uAug, uNeg, uTIx, wCat, frs0, List.map_cons, List.map_nil, List.getElem?_cons_zero, List.getElem?_cons_succ, List.set_cons_zero, List.set_cons_succ, List.length_cons, List.length_nil, List.nil_append, List.cons_append, Nat.reduceAdd, Nat.reduceSub, List.replicate_zero, List.replicate_succ, isNonD, isFlat, xor_f, xor_t, Bool.true_or, Bool.false_or, Bool.and_true, Bool.true_and, Bool.or_true, Bool.or_false, true_and, and_true, forall_const, true_implies, false_implies, implies_true, Bool.false_eq_true, reduceCtorEq, Option.some.injEq, exists_eq_left, exists_eq_left', kit_tab, exists_and_left, Option.isSome_some, Option.isSome_none, con1, con2, con3, con4, con1E, con2E, con3E, endE, CisI, CisW, CisR, CisP, CisS, atI0, atI1, uSortL, uSortSet, uLenSet, atI2, atI3, uiRow, uiVar, uiRng1, uiRng2, uLc, noOi_fr, noOi_un, noOi_ow, uIxO, List.all_cons, List.all_nil, wipeD, uExpr, uAttr, putD, uMake, uiEnum, initE, iNx, Sl.oi.injEq, and_imp, forall_eq', forall_apply_eq_imp_iff, uM0, uM1, uM2, uMp1, uMp2, eqv_lnil, shp_lnil, shp_ints, retM, uSl, uoN, uoS, wRep, wLtP, uJoin, wRepr, uKwC, wStrO, isSeqD, rowD_P, rowD_S, rowD_Sq, rowD_Sh, tup_P, tup_S, tup_S', lit_sz, shpP60, shpS60, shpsP59, shpsS59, any_P, any_S, any_I, all_P, all_S, tupK_P, tupK_S, alike_two, alike_P, alike_S, optD, shp_int, shp_non, shp_bl, eqv_int, eqv_bl, decide_eq_true_eq, decide_eq_false_iff_not, Bool.not_eq_true', Bool.not_eq_false', Bool.not_true, Bool.not_false, Bool.true_eq_false, Bool.false_eq_true, Bool.and_self]
      exact ⟨List.all_eq_true.mp oka d hd, hq⟩
    · have em : ds.map (fun d => D.bl (isSq d)) = (ds.map isSq).map D.bl := by rw [List.map_map]; rfl
      rw [List.nil_append, em, bls_map]
      have ea : (ds.map isSq).all id = (allO sqD ds).isSome := by
        rw [allO_isSome, List.all_map]
        congr 1
        exact funext fun d => isSq_sq d
      refine ⟨_, rfl, fun h => err fun ps h2 => ?_, fun h => ⟨by rw [sizeLine_eq]; omega, lcG_map0 tupP (fun d hd Kk hq => ?_) ?_⟩⟩
      · rw [ea, h2] at h; cases h
      · rw [ea] at h
        obtain ⟨ps, h⟩ := Option.isSome_iff_exists.mp h
        obtain ⟨p, hp⟩ := allO_get h hd
        rw [tupP_eq hp] at hq
        rcases sqD_tup (sqD_pt hp).1 with rfl | rfl
        all_goals simp only [uSeq, later_cons, uNext, uRet, uRetN, uIf, uSet, uSetO, uAsg, uFrz, uFrz1, frzAll, frz1, retE, uVar, uK, u2, wI, cYes, wEq, wIsN, wIx, wMem, uAnd, uOr, uNot, uB, uTAnd, uTOr, uTNot, uRowT, uIte, uChain, uNil, uCons, uLst, uTup, uFld, uSelf, uC, wLen, wTupOf, wI1, wI2, wInt, wBls, wInts, wIsi1, wIsiC, uIsRow, uCall, uCallN, uT, uTs, rowD_lst, rowD_tup, rowD_int, isBk, uRaise, uPar, uParOO, uApp, uExt, uPop, uAug, uNeg, uTIx, wCat, frs0, List.map_cons, List.map_nil, List.getElem?_cons_zero, List.getElem?_cons_succ, List.set_cons_zero, List.set_cons_succ, List.length_cons, List.length_nil, List.nil_append, List.cons_append, Nat.reduceAdd, Nat.reduceSub, List.replicate_zero, List.replicate_succ, isNonD, isFlat, xor_f, xor_t, Bool.true_or, Bool.false_or, Bool.and_true, Bool.true_and, Bool.or_true, Bool.or_false, true_and, and_true, forall_const, true_implies, false_implies, implies_true, Bool.false_eq_true, reduceCtorEq, Option.some.injEq, exists_eq_left, exists_eq_left', kit_tab, exists_and_left, Option.isSome_some, Option.isSome_none, con1, con2, con3, con4, con1E, con2E, con3E, endE, CisI, CisW, CisR, CisP, CisS, atI0, atI1, uSortL, uSortSet, uLenSet, atI2, atI3, uiRow, uiVar, uiRng1, uiRng2, uLc, noOi_fr, noOi_un, noOi_ow, uIxO, List.all_cons, List.all_nil, wipeD, uExpr, uAttr, putD, uMake, uiEnum, initE, iNx, Sl.oi.injEq, and_imp, forall_eq', forall_apply_eq_imp_iff, uM0, uM1, uM2, uMp1, uMp2, eqv_lnil, shp_lnil, shp_ints, retM, uSl, uoN, uoS, wRep, wLtP, uJoin, wRepr, uKwC, wStrO, isSeqD]
        all_goals exact hq
      · rw [ea] at h
        obtain ⟨ps, h⟩ := Option.isSome_iff_exists.mp h
        have lp := allO_len h
        rw [List.nil_append, allO_map (fun _ _ => tupP_eq) h]
        refine ⟨all_P _, by rw [List.length_map]; omega, alike_P _, fun M nd mm sr => ?_⟩
        obtain ⟨s1, s2⟩ := len_set (fun _ _ => encP_inj) nd mm
        refine ⟨fun lt => err fun ps2 h2 => ?_, fun lt => ?_⟩
        · rw [h] at h2; cases h2
          exact fun y => s2.mp (by omega) y.2.2
        · have np : ps.Nodup := by
            rcases Classical.em ps.Nodup with y | y
            · exact y
            · have := s2.mpr y; omega
          rw [h] at q
          dsimp only at q
          rw [if_pos ⟨by omega, by omega, np⟩] at q
          rw [sqs_sort np nd mm sr]
          exact q
    · have := allO_len h
      omega
    · have := allO_len h
      omega
abbrev s__shut_told : Stmt := topS 27
theorem sc__shut_told : FnScope ["value", "squares", "sides", "side"] ["value", "squares"] (defScope s__shut_told) := ⟨rfl, rfl, rfl, by decide +kernel, rfl, by decide +kernel, by decide +kernel⟩
variable {fT : Addr} {dT : FuncData}
theorem ok__shut_told {f : Addr} {fd : FuncData} (D_is_integer : Df K mg "is_integer" s_is_integer ["value"] fI dI) (D_is_row : Df K mg "is_row" s_is_row ["value"] fR dR) (D_is_point : Df K mg "is_point" s_is_point ["value"] fP dP) (D_side_told : Df K mg "side_told" s_side_told ["value", "squares"] fT dT) (F : Fun K "_shut_told" "_shut_told" s__shut_told f fd) (T : Txt2 K mg tk aST aEN CR CB CF fB fF dB dF) : FnOk P w K mg base (L2.CX P w) 4 f fd ["value", "squares"] (spV K (C_sht CB)) := by
  have G_is_row : FnOk P w K mg base (L2.CX P w) 1 fR dR ["value"] (spV K CisR) := ok_is_row D_is_row.F T.toTxt
  have G_side_told : FnOk P w K mg base (L2.CX P w) 3 fT dT ["value", "squares"] (spV K C_st) := ok_side_told D_is_integer D_is_row D_is_point D_side_told.F T
  have GE_BadRoom := ok_BadRoom (P := P) (w := w) (base := base) T.e_BadRoom
  refine con_ok F sc__shut_told (fun m t ds Pq pe h => by obtain ⟨_, _, rfl, _⟩ := h; rfl) (fun c pe cdv A outer s H E hK tk hx hr => ⟨_, (vs_cons (vs_if (vt_not (vt_val (v_call hK G_is_row (hr.mono (by decide)) (by rfl) D_is_row.m D_is_row.F.kp D_is_row.b hx (va_cons (v_var (pv 0)) va_nil))))
(vs_one (vs_raise (f := "part") hK rfl tk T.e_BadRoom GE_BadRoom T.np_BadRoom (hr.mono (by decide)) (by rfl) (v_str pe_str)))
vs_nil)
(vs_cons (vs_setLc (i := 2) hK (by rfl) sc__shut_told.nd rfl rfl (sw_true rfl rfl rfl (by decide +kernel)) (T := (.nm 3)) (own := [(("side" : Str), 3)]) (by decide) (vi_var (i := 0) hK (pv 0)) (blkOk_by (N := ["value", "squares", "sides", "side"]) (sc := defScope s__shut_told) (by decide +kernel)) (fun _ _ _ _ _ => (pg_name (i := 3) sc__shut_told.nd rfl (by first | exact Or.inl rfl | exact Or.inr rfl))) (fun _ _ _ _ _ => vts_nil) (fun _ _ _ _ _ => (v_call hK G_side_told (hr.mono (by decide)) (by rfl) D_side_told.m D_side_told.F.kp D_side_told.b (passF fun _ _ z => z) (va_cons (v_var (pv 3)) (va_cons (v_var (pv 1)) va_nil)))))
(vs_cons (vs_if (PW.pt (vt_or (vt_cmp (o_in hK hr.units) w_in (v_non pe_non) (v_var (pv 2)) (by rfl)) (vt_or1 (vt_cmp op_lt w_lt (v_lenSet (by rfl) hr.units hK (by rfl) T.n_len (by rfl) T.n_set (v_var (pv 2))) (v_callB (b_len hK) c_len (by rfl) T.n_len (by decide +kernel) (va_cons (v_var (pv 2)) va_nil)) (nomark _)))))
(vs_one (vs_raise (f := "part") hK rfl tk T.e_BadRoom GE_BadRoom T.np_BadRoom (hr.mono (by decide)) (by rfl) (v_str pe_str)))
vs_nil)
(vs_one (vs_ret (v_callTy (b_tup hK) c_tup (by rfl) T.n_tuple (by decide +kernel) (va_cons (ne_ve (vn_sortL hr.units hK (by rfl) T.n_sorted (v_var (pv 2)))) va_nil))))))), fun t ds Pq h => ?_⟩)
  obtain ⟨v, sq, rfl, ok, few, q⟩ := h
  simp only [uSeq, later_cons, uNext, uRet, uRetN, uIf, uSet, uSetO, uAsg, uFrz, uFrz1, frzAll, frz1, retE, uVar, uK, u2, wI, cYes, wEq, wIsN, wIx, wMem, uAnd, uOr, uNot, uB, uTAnd, uTOr, uTNot, uRowT, uIte, uChain, uNil, uCons, uLst, uTup, uFld, uSelf, uC, wLen, wTupOf, wI1, wI2, wInt, wBls, wInts, wIsi1, wIsiC, uIsRow, uCall, uCallN, uT, uTs, rowD_lst, rowD_tup, rowD_int, isBk, uRaise, uPar, uParOO, uApp, uExt, uPop, uAug, uNeg, uTIx, wCat, frs0, List.map_cons, List.map_nil, List.getElem?_cons_zero, List.getElem?_cons_succ, List.set_cons_zero, List.set_cons_succ, List.length_cons, List.length_nil, List.nil_append, List.cons_append, Nat.reduceAdd, Nat.reduceSub, List.replicate_zero, List.replicate_succ, isNonD, isFlat, xor_f, xor_t, Bool.true_or, Bool.false_or, Bool.and_true, Bool.true_and, Bool.or_true, Bool.or_false, true_and, and_true, forall_const, true_implies, false_implies, implies_true, Bool.false_eq_true, reduceCtorEq, Option.some.injEq, exists_eq_left, exists_eq_left', kit_tab, exists_and_left, Option.isSome_some, Option.isSome_none, con1, con2, con3, con4, con1E, con2E, con3E, endE, CisI, CisW, CisR, CisP, CisS, atI0, atI1, uSortL, uSortSet, uLenSet, atI2, atI3, uiRow, uiVar, uiRng1, uiRng2, uLc, noOi_fr, noOi_un, noOi_ow, uIxO, List.all_cons, List.all_nil, wipeD, uExpr, uAttr, putD, uMake, uiEnum, initE, iNx, Sl.oi.injEq, and_imp, forall_eq', forall_apply_eq_imp_iff, uM0, uM1, uM2, uMp1, uMp2, eqv_lnil, shp_lnil, shp_ints, retM, uSl, uoN, uoS, wRep, wLtP, uJoin, wRepr, uKwC, wStrO, isSeqD, rowD_P, rowD_S, rowD_Sq, rowD_Sh, tup_P, tup_S, tup_S', lit_sz, shpP60, shpS60, shpsP59, shpsS59, any_P, any_S, any_I, all_P, all_S, tupK_P, tupK_S, alike_two, alike_P, alike_S, optD, shp_int, shp_non, shp_bl, eqv_int, eqv_bl, decide_eq_true_eq, decide_eq_false_iff_not, Bool.not_eq_true', Bool.not_eq_false', Bool.not_true, Bool.not_false, Bool.true_eq_false, Bool.false_eq_true, Bool.and_self]
  refine ⟨ok, ?_⟩
  cases e : rowD v with
  | none =>
    simp only [uSeq, later_cons, uNext, uRet, uRetN, uIf, uSet, uSetO, uAsg, uFrz, uFrz1, frzAll, frz1, retE, uVar, uK, u2, wI, cYes, wEq, wIsN, wIx, wMem, uAnd, uOr, uNot, uB, uTAnd, uTOr, uTNot, uRowT, uIte, uChain, uNil, uCons, uLst, uTup, uFld, uSelf, uC, wLen, wTupOf, wI1, wI2, wInt, wBls, wInts, wIsi1, wIsiC, uIsRow, uCall, uCallN, uT, uTs, rowD_lst, rowD_tup, rowD_int, isBk, uRaise, uPar, uParOO, uApp, uExt, uPop, uAug, uNeg, uTIx, wCat, frs0, List.map_cons, List.map_nil, List.getElem?_cons_zero, List.getElem?_cons_succ, List.set_cons_zero, List.set_cons_succ, List.length_cons, List.length_nil, List.nil_append, List.cons_append, Nat.reduceAdd, Nat.reduceSub, List.replicate_zero, List.replicate_succ, isNonD, isFlat, xor_f, xor_t, Bool.true_or, Bool.false_or, Bool.and_true, Bool.true_and, Bool.or_true, Bool.or_false, true_and, and_true, forall_const, true_implies, false_implies, implies_true, Bool.false_eq_true, reduceCtorEq, Option.some.injEq, exists_eq_left, exists_eq_left', kit_tab, exists_and_left, Option.isSome_some, Option.isSome_none, con1, con2, con3, con4, con1E, con2E, con3E, endE, CisI, CisW, CisR, CisP, CisS, atI0, atI1, uSortL, uSortSet, uLenSet, atI2, atI3, uiRow, uiVar, uiRng1, uiRng2, uLc, noOi_fr, noOi_un, noOi_ow, uIxO, List.all_cons, List.all_nil, wipeD, uExpr, uAttr, putD, uMake, uiEnum, initE, iNx, Sl.oi.injEq, and_imp, forall_eq', forall_apply_eq_imp_iff, uM0, uM1, uM2, uMp1, uMp2, eqv_lnil, shp_lnil, shp_ints, retM, uSl, uoN, uoS, wRep, wLtP, uJoin, wRepr, uKwC, wStrO, isSeqD, shTold, e] at q ⊢
    exact q
  | some ds =>
    have oka := ok_row ok e
    have fw := few ds e
    simp only [uSeq, later_cons, uNext, uRet, uRetN, uIf, uSet, uSetO, uAsg, uFrz, uFrz1, frzAll, frz1, retE, uVar, uK, u2, wI, cYes, wEq, wIsN, wIx, wMem, uAnd, uOr, uNot, uB, uTAnd, uTOr, uTNot, uRowT, uIte, uChain, uNil, uCons, uLst, uTup, uFld, uSelf, uC, wLen, wTupOf, wI1, wI2, wInt, wBls, wInts, wIsi1, wIsiC, uIsRow, uCall, uCallN, uT, uTs, rowD_lst, rowD_tup, rowD_int, isBk, uRaise, uPar, uParOO, uApp, uExt, uPop, uAug, uNeg, uTIx, wCat, frs0, List.map_cons, List.map_nil, List.getElem?_cons_zero, List.getElem?_cons_succ, List.set_cons_zero, List.set_cons_succ, List.length_cons, List.length_nil, List.nil_append, List.cons_append, Nat.reduceAdd, Nat.reduceSub, List.replicate_zero, List.replicate_succ, isNonD, isFlat, xor_f, xor_t, Bool.true_or, Bool.false_or, Bool.and_true, Bool.true_and, Bool.or_true, Bool.or_false, true_and, and_true, forall_const, true_implies, false_implies, implies_true, Bool.false_eq_true, reduceCtorEq, Option.some.injEq, exists_eq_left, exists_eq_left', kit_tab, exists_and_left, Option.isSome_some, Option.isSome_none, con1, con2, con3, con4, con1E, con2E, con3E, endE, CisI, CisW, CisR, CisP, CisS, atI0, atI1, uSortL, uSortSet, uLenSet, atI2, atI3, uiRow, uiVar, uiRng1, uiRng2, uLc, noOi_fr, noOi_un, noOi_ow, uIxO, List.all_cons, List.all_nil, wipeD, uExpr, uAttr, putD, uMake, uiEnum, initE, iNx, Sl.oi.injEq, and_imp, forall_eq', forall_apply_eq_imp_iff, uM0, uM1, uM2, uMp1, uMp2, eqv_lnil, shp_lnil, shp_ints, retM, uSl, uoN, uoS, wRep, wLtP, uJoin, wRepr, uKwC, wStrO, isSeqD, rowD_P, rowD_S, rowD_Sq, rowD_Sh, tup_P, tup_S, tup_S', lit_sz, shpP60, shpS60, shpsP59, shpsS59, any_P, any_S, any_I, all_P, all_S, tupK_P, tupK_S, alike_two, alike_P, alike_S, optD, shp_int, shp_non, shp_bl, eqv_int, eqv_bl, decide_eq_true_eq, decide_eq_false_iff_not, Bool.not_eq_true', Bool.not_eq_false', Bool.not_true, Bool.not_false, Bool.true_eq_false, Bool.false_eq_true, Bool.and_self, shTold, e] at q ⊢
    have err : (∀ ps, allO (sideTold sq) ds = some ps → ¬ ps.Nodup) → pe t (exP CB "shut") := fun h => by
      cases e2 : allO (sideTold sq) ds with
      | none => rw [e2] at q; exact q
      | some ps =>
        rw [e2] at q
        dsimp only at q
        rw [if_neg (h ps e2)] at q
        exact q
    refine ⟨by rw [sizeLine_eq]; omega, lcG_map0 (fun d => optS (sideTold sq d)) (fun d hd Kk hq => ?_) ?_⟩
    · simp only [uSeq, later_cons, uNext, uRet, uRetN, uIf, uSet, uSetO, uAsg, uFrz, uFrz1, frzAll, frz1, retE, uVar, uK, u2, wI, cYes, wEq, wIsN, wIx, wMem, uAnd, uOr, uNot, uB, uTAnd, uTOr, uTNot, uRowT, uIte, uChain, uNil, uCons, uLst, uTup, uFld, uSelf, uC, wLen, wTupOf, wI1, wI2, wInt, wBls, wInts, wIsi1, wIsiC, uIsRow, uCall, uCallN, uT, uTs, rowD_lst, rowD_tup, rowD_int, isBk, uRaise, uPar, uParOO, uApp, uExt, uPop, uAug, uNeg, uTIx, wCat, frs0, List.map_cons, List.map_nil, List.getElem?_cons_zero, List.getElem?_cons_succ, List.set_cons_zero, List.set_cons_succ, List.length_cons, List.length_nil, List.nil_append, List.cons_append, Nat.reduceAdd, Nat.reduceSub, List.replicate_zero, List.replicate_succ, isNonD, isFlat, xor_f, xor_t, Bool.true_or, Bool.false_or, Bool.and_true, Bool.true_and, Bool.or_true, Bool.or_false, true_and, and_true, forall_const, true_implies, false_implies, implies_true, Bool.false_eq_true, reduceCtorEq, Option.some.injEq, exists_eq_left, exists_eq_left', kit_tab, exists_and_left, Option.isSome_some, Option.isSome_none, con1, con2, con3, con4, con1E, con2E, con3E, endE, CisI, CisW, CisR, CisP, CisS, atI0, atI1, uSortL, uSortSet, uLenSet, atI2, atI3, uiRow, uiVar, uiRng1, uiRng2, uLc, noOi_fr, noOi_un, noOi_ow, uIxO, List.all_cons, List.all_nil, wipeD, uExpr, uAttr, putD, uMake, uiEnum, initE, iNx, Sl.oi.injEq, and_imp, forall_eq', forall_apply_eq_imp_iff, uM0, uM1, uM2, uMp1, uMp2, eqv_lnil, shp_lnil, shp_ints, retM, uSl, uoN, uoS, wRep, wLtP, uJoin, wRepr, uKwC, wStrO, isSeqD, rowD_P, rowD_S, rowD_Sq, rowD_Sh, tup_P, tup_S, tup_S', lit_sz, shpP60, shpS60, shpsP59, shpsS59, any_P, any_S, any_I, all_P, all_S, tupK_P, tupK_S, alike_two, alike_P, alike_S, optD, shp_int, shp_non, shp_bl, eqv_int, eqv_bl, decide_eq_true_eq, decide_eq_false_iff_not, Bool.not_eq_true', Bool.not_eq_false', Bool.not_true, Bool.not_false, Bool.true_eq_false, Bool.false_eq_true, Bool.and_self]
      exact ⟨_, _, rfl, List.all_eq_true.mp oka d hd, hq⟩
    · simp only [uSeq, later_cons, uNext, uRet, uRetN, uIf, uSet, uSetO, uAsg, uFrz, uFrz1, frzAll, frz1, retE, uVar, uK, u2, wI, cYes, wEq, wIsN, wIx, wMem, uAnd, uOr, uNot, uB, uTAnd, uTOr, uTNot, uRowT, uIte, uChain, uNil, uCons, uLst, uTup, uFld, uSelf, uC, wLen, wTupOf, wI1, wI2, wInt, wBls, wInts, wIsi1, wIsiC, uIsRow, uCall, uCallN, uT, uTs, rowD_lst, rowD_tup, rowD_int, isBk, uRaise, uPar, uParOO, uApp, uExt, uPop, uAug, uNeg, uTIx, wCat, frs0, List.map_cons, List.map_nil, List.getElem?_cons_zero, List.getElem?_cons_succ, List.set_cons_zero, List.set_cons_succ, List.length_cons, List.length_nil, List.nil_append, List.cons_append, Nat.reduceAdd, Nat.reduceSub, List.replicate_zero, List.replicate_succ, isNonD, isFlat, xor_f, xor_t, Bool.true_or, Bool.false_or, Bool.and_true, Bool.true_and, Bool.or_true, Bool.or_false, true_and, and_true, forall_const, true_implies, false_implies, implies_true, Bool.false_eq_true, reduceCtorEq, Option.some.injEq, exists_eq_left, exists_eq_left', kit_tab, exists_and_left, Option.isSome_some, Option.isSome_none, con1, con2, con3, con4, con1E, con2E, con3E, endE, CisI, CisW, CisR, CisP, CisS, atI0, atI1, uSortL, uSortSet, uLenSet, atI2, atI3, uiRow, uiVar, uiRng1, uiRng2, uLc, noOi_fr, noOi_un, noOi_ow, uIxO, List.all_cons, List.all_nil, wipeD, uExpr, uAttr, putD, uMake, uiEnum, initE, iNx, Sl.oi.injEq, and_imp, forall_eq', forall_apply_eq_imp_iff, uM0, uM1, uM2, uMp1, uMp2, eqv_lnil, shp_lnil, shp_ints, retM, uSl, uoN, uoS, wRep, wLtP, uJoin, wRepr, uKwC, wStrO, isSeqD, rowD_P, rowD_S, rowD_Sq, rowD_Sh, tup_P, tup_S, tup_S', lit_sz, shpP60, shpS60, shpsP59, shpsS59, any_P, any_S, any_I, all_P, all_S, tupK_P, tupK_S, alike_two, alike_P, alike_S, optD, shp_int, shp_non, shp_bl, eqv_int, eqv_bl, decide_eq_true_eq, decide_eq_false_iff_not, Bool.not_eq_true', Bool.not_eq_false', Bool.not_true, Bool.not_false, Bool.true_eq_false, Bool.false_eq_true, Bool.and_self]
      refine ⟨shps_optS _ _, ?_⟩
      rw [any_optS]
      refine ⟨fun h => err fun ps h2 => ?_, fun h => ?_⟩
      · rw [h2] at h; cases h
      · cases e2 : allO (sideTold sq) ds with
        | none => rw [e2] at h; cases h
        | some ss =>
          rw [optS_map e2]
          have ls := allO_len e2
          refine ⟨all_S _, by rw [List.length_map]; omega, fun M nd mm => ?_⟩
          obtain ⟨s1, s2⟩ := len_set (fun _ _ => encS_inj) nd mm
          refine ⟨fun lt => err fun ps2 h2 => ?_, fun lt => ⟨all_S _, by rw [List.length_map, sizeLine_eq]; omega, alike_S _, fun M2 pm sr => ?_⟩⟩
          · rw [e2] at h2; cases h2
            rw [List.length_map] at lt
            exact s2.mp (by omega)
          · have np : ss.Nodup := by
              rcases Classical.em ss.Nodup with y | y
              · exact y
              · have := s2.mpr y
                rw [List.length_map] at lt
                omega
            rw [e2] at q
            dsimp only at q
            rw [if_pos np] at q
            rw [sorted_list ordS (fun _ _ => encS_inj) srtD_S pm sr]
            exact q
abbrev s_need_room : Stmt := topS 25
theorem sc_need_room : FnScope ["room", "part"] ["room", "part"] (defScope s_need_room) := ⟨rfl, rfl, rfl, by decide +kernel, rfl, by decide +kernel, by decide +kernel⟩
theorem ok_need_room {f : Addr} {fd : FuncData} (F : Fun K "need_room" "need_room" s_need_room f fd) (T : Txt2 K mg tk aST aEN CR CB CF fB fF dB dF) : FnOk P w K mg base (L2.CX P w) 3 f fd ["room", "part"] (spV K (C_nr CR CB)) := by
  have GE_BadRoom := ok_BadRoom (P := P) (w := w) (base := base) T.e_BadRoom
  refine con_ok F sc_need_room (fun m t ds Pq pe h => by obtain ⟨_, _, rfl, _⟩ := h; rfl) (fun c pe cdv A outer s H E hK tk hx hr => ⟨_, (vs_one (vs_if (vt_not (vt_val (v_callB (b_isi hK) (c_isiC (hK ▸ T.i_Room)) (by rfl) T.n_isinstance (by decide +kernel) (va_cons (v_var (pv 0)) (va_cons (v_adr (pe_glob (v := .ref _) (by rfl) T.g_Room rfl)) va_nil)))))
(vs_one (vs_raise (f := "part") hK rfl tk T.e_BadRoom GE_BadRoom T.np_BadRoom (hr.mono (by decide)) (by rfl) (v_var (pv 1))))
vs_nil)), fun t ds Pq h => ?_⟩)
  obtain ⟨d, s, rfl, ok, q1, q2⟩ := h
  simp only [uSeq, later_cons, uNext, uRet, uRetN, uIf, uSet, uSetO, uAsg, uFrz, uFrz1, frzAll, frz1, retE, uVar, uK, u2, wI, cYes, wEq, wIsN, wIx, wMem, uAnd, uOr, uNot, uB, uTAnd, uTOr, uTNot, uRowT, uIte, uChain, uNil, uCons, uLst, uTup, uFld, uSelf, uC, wLen, wTupOf, wI1, wI2, wInt, wBls, wInts, wIsi1, wIsiC, uIsRow, uCall, uCallN, uT, uTs, rowD_lst, rowD_tup, rowD_int, isBk, uRaise, uPar, uParOO, uApp, uExt, uPop, uAug, uNeg, uTIx, wCat, frs0, List.map_cons, List.map_nil, List.getElem?_cons_zero, List.getElem?_cons_succ, List.set_cons_zero, List.set_cons_succ, List.length_cons, List.length_nil, List.nil_append, List.cons_append, Nat.reduceAdd, Nat.reduceSub, List.replicate_zero, List.replicate_succ, isNonD, isFlat, xor_f, xor_t, Bool.true_or, Bool.false_or, Bool.and_true, Bool.true_and, Bool.or_true, Bool.or_false, true_and, and_true, forall_const, true_implies, false_implies, implies_true, Bool.false_eq_true, reduceCtorEq, Option.some.injEq, exists_eq_left, exists_eq_left', kit_tab, exists_and_left, Option.isSome_some, Option.isSome_none, con1, con2, con3, con4, con1E, con2E, con3E, endE, CisI, CisW, CisR, CisP, CisS, atI0, atI1, uSortL, uSortSet, uLenSet, atI2, atI3, uiRow, uiVar, uiRng1, uiRng2, uLc, noOi_fr, noOi_un, noOi_ow, uIxO, List.all_cons, List.all_nil, wipeD, uExpr, uAttr, putD, uMake, uiEnum, initE, iNx, Sl.oi.injEq, and_imp, forall_eq', forall_apply_eq_imp_iff, uM0, uM1, uM2, uMp1, uMp2, eqv_lnil, shp_lnil, shp_ints, retM, uSl, uoN, uoS, wRep, wLtP, uJoin, wRepr, uKwC, wStrO, isSeqD, rowD_P, rowD_S, rowD_Sq, rowD_Sh, tup_P, tup_S, tup_S', lit_sz, shpP60, shpS60, shpsP59, shpsS59, any_P, any_S, any_I, all_P, all_S, tupK_P, tupK_S, alike_two, alike_P, alike_S, optD, shp_int, shp_non, shp_bl, eqv_int, eqv_bl, decide_eq_true_eq, decide_eq_false_iff_not, Bool.not_eq_true', Bool.not_eq_false', Bool.not_true, Bool.not_false, Bool.true_eq_false, Bool.false_eq_true, Bool.and_self]
  cases d <;> simp only [D.ok, isRoom, Bool.false_eq_true, or_self, or_false, false_or, beq_iff_eq] at ok
  all_goals simp only [uSeq, later_cons, uNext, uRet, uRetN, uIf, uSet, uSetO, uAsg, uFrz, uFrz1, frzAll, frz1, retE, uVar, uK, u2, wI, cYes, wEq, wIsN, wIx, wMem, uAnd, uOr, uNot, uB, uTAnd, uTOr, uTNot, uRowT, uIte, uChain, uNil, uCons, uLst, uTup, uFld, uSelf, uC, wLen, wTupOf, wI1, wI2, wInt, wBls, wInts, wIsi1, wIsiC, uIsRow, uCall, uCallN, uT, uTs, rowD_lst, rowD_tup, rowD_int, isBk, uRaise, uPar, uParOO, uApp, uExt, uPop, uAug, uNeg, uTIx, wCat, frs0, List.map_cons, List.map_nil, List.getElem?_cons_zero, List.getElem?_cons_succ, List.set_cons_zero, List.set_cons_succ, List.length_cons, List.length_nil, List.nil_append, List.cons_append, Nat.reduceAdd, Nat.reduceSub, List.replicate_zero, List.replicate_succ, isNonD, isFlat, xor_f, xor_t, Bool.true_or, Bool.false_or, Bool.and_true, Bool.true_and, Bool.or_true, Bool.or_false, true_and, and_true, forall_const, true_implies, false_implies, implies_true, Bool.false_eq_true, reduceCtorEq, Option.some.injEq, exists_eq_left, exists_eq_left', kit_tab, exists_and_left, Option.isSome_some, Option.isSome_none, con1, con2, con3, con4, con1E, con2E, con3E, endE, CisI, CisW, CisR, CisP, CisS, atI0, atI1, uSortL, uSortSet, uLenSet, atI2, atI3, uiRow, uiVar, uiRng1, uiRng2, uLc, noOi_fr, noOi_un, noOi_ow, uIxO, List.all_cons, List.all_nil, wipeD, uExpr, uAttr, putD, uMake, uiEnum, initE, iNx, Sl.oi.injEq, and_imp, forall_eq', forall_apply_eq_imp_iff, uM0, uM1, uM2, uMp1, uMp2, eqv_lnil, shp_lnil, shp_ints, retM, uSl, uoN, uoS, wRep, wLtP, uJoin, wRepr, uKwC, wStrO, isSeqD, isBC, noB_tab, isRoom, Bool.not_true, Bool.not_false] at q1 q2 ⊢
  all_goals first
    | exact q2
    | (subst ok; simp only [uSeq, later_cons, uNext, uRet, uRetN, uIf, uSet, uSetO, uAsg, uFrz, uFrz1, frzAll, frz1, retE, uVar, uK, u2, wI, cYes, wEq, wIsN, wIx, wMem, uAnd, uOr, uNot, uB, uTAnd, uTOr, uTNot, uRowT, uIte, uChain, uNil, uCons, uLst, uTup, uFld, uSelf, uC, wLen, wTupOf, wI1, wI2, wInt, wBls, wInts, wIsi1, wIsiC, uIsRow, uCall, uCallN, uT, uTs, rowD_lst, rowD_tup, rowD_int, isBk, uRaise, uPar, uParOO, uApp, uExt, uPop, uAug, uNeg, uTIx, wCat, frs0, List.map_cons, List.map_nil, List.getElem?_cons_zero, List.getElem?_cons_succ, List.set_cons_zero, List.set_cons_succ, List.length_cons, List.length_nil, List.nil_append, List.cons_append, Nat.reduceAdd, Nat.reduceSub, List.replicate_zero, List.replicate_succ, isNonD, isFlat, xor_f, xor_t, Bool.true_or, Bool.false_or, Bool.and_true, Bool.true_and, Bool.or_true, Bool.or_false, true_and, and_true, forall_const, true_implies, false_implies, implies_true, Bool.false_eq_true, reduceCtorEq, Option.some.injEq, exists_eq_left, exists_eq_left', kit_tab, exists_and_left, Option.isSome_some, Option.isSome_none, con1, con2, con3, con4, con1E, con2E, con3E, endE, CisI, CisW, CisR, CisP, CisS, atI0, atI1, uSortL, uSortSet, uLenSet, atI2, atI3, uiRow, uiVar, uiRng1, uiRng2, uLc, noOi_fr, noOi_un, noOi_ow, uIxO, List.all_cons, List.all_nil, wipeD, uExpr, uAttr, putD, uMake, uiEnum, initE, iNx, Sl.oi.injEq, and_imp, forall_eq', forall_apply_eq_imp_iff, uM0, uM1, uM2, uMp1, uMp2, eqv_lnil, shp_lnil, shp_ints, retM, uSl, uoN, uoS, wRep, wLtP, uJoin, wRepr, uKwC, wStrO, isSeqD, if_true, if_pos rfl, beq_self_eq_true, Bool.not_true] at q1 ⊢; exact q1)
end
end K06

set_option linter.all false
set_option maxRecDepth 100000
set_option maxHeartbeats 4000000
namespace K06
open PySem PySem.Spec PyProof.Rows L2 Nv VL
section
variable {P : Program} {w : World} {K : PySem.W.Frag} {mg : Str → Option Value} {base : Heap} {tk : Tok} {aST aEN CR CB CF fB fF : Addr} {dB dF : FuncData}
variable {fI fW fR fP fS fT fQ fH fN fA : Addr} {dI dW dR dP dS dT dQ dH dN dA : FuncData}
abbrev s_Room_init : Stmt := inClass (topS 32) 0
theorem sc_Room_init : FnScope ["self", "squares", "shut", "fine"] ["self", "squares", "shut", "fine"] (defScope s_Room_init) := ⟨rfl, rfl, rfl, by decide +kernel, rfl, by decide +kernel, by decide +kernel⟩
theorem ok_Room_init {f : Addr} {fd : FuncData} (D_is_integer : Df K mg "is_integer" s_is_integer ["value"] fI dI) (D_is_within : Df K mg "is_within" s_is_within ["value", "least", "most"] fW dW) (D_is_row : Df K mg "is_row" s_is_row ["value"] fR dR) (D_is_point : Df K mg "is_point" s_is_point ["value"] fP dP) (D_is_square : Df K mg "is_square" s_is_square ["value"] fS dS)
    (D_side_told : Df K mg "side_told" s_side_told ["value", "squares"] fT dT) (D__squares_told : Df K mg "_squares_told" s__squares_told ["value"] fQ dQ) (D__shut_told : Df K mg "_shut_told" s__shut_told ["value", "squares"] fH dH) (D__number_beyond : Df K mg "_number_beyond" s__number_beyond ["squares", "shut", "square", "side"] fN dN) (D__all_beyond : Df K mg "_all_beyond" s__all_beyond ["squares", "shut"] fA dA)
    {fG : Addr} {dG : FuncData} (D_hang_together : Df K mg "hang_together" s_hang_together ["squares", "shut"] fG dG) {dvs : List V} {kws : List (Str × V)} (F : FunD K "__init__" "Room.__init__" (defArgs s_Room_init) (defBody s_Room_init) (defScope s_Room_init) dvs kws f fd) (T : Txt2 K mg tk aST aEN CR CB CF fB fF dB dF) : FnOk P w K mg base (L2.CX P w) 5 f fd ["self", "squares", "shut", "fine"] (spI K CR (C_ri CR CB CF)) := by
  have G__squares_told := ok__squares_told (P := P) (w := w) (base := base) D_is_integer D_is_within D_is_row D_is_point D_is_square D__squares_told.F T
  have G__shut_told := ok__shut_told (P := P) (w := w) (base := base) D_is_integer D_is_row D_is_point D_side_told D__shut_told.F T
  have G_is_within := ok_is_within (P := P) (w := w) (base := base) D_is_integer D_is_within.F T.toTxt
  have G_hang_together := ok_hang_together (P := P) (w := w) (base := base) D__number_beyond D__all_beyond D_hang_together.F T.toTxt
  have G__all_beyond := ok__all_beyond (P := P) (w := w) (base := base) D__number_beyond D__all_beyond.F T.toTxt
  have GE_BadRoom := ok_BadRoom (P := P) (w := w) (base := base) T.e_BadRoom
  have GE_Misfit := ok_Misfit (P := P) (w := w) (base := base) T.e_Misfit
  refine con_initD F sc_Room_init (fun m t ds Pq pe h => by obtain ⟨_, _, _, rfl, _⟩ := h; rfl) (fun c pe cdv A outer s H E hK tk hx hr => ⟨_, (vs_cons (vs_attr hK T.cl_Room T.no_Room_squares (pv 0) (v_call hK G__squares_told (hr.mono (by decide)) (by rfl) D__squares_told.m D__squares_told.F.kp D__squares_told.b hx (va_cons (v_var (pv 1)) va_nil)) (by rfl))
(vs_cons (vs_attr hK T.cl_Room T.no_Room_shut (pv 0) (v_call hK G__shut_told (hr.mono (by decide)) (by rfl) D__shut_told.m D__shut_told.F.kp D__shut_told.b hx (va_cons (v_var (pv 2)) (va_cons (v_self hK T.cl_Room T.no_Room_squares (pv 0) (by rfl)) va_nil))) (by rfl))
(vs_cons (vs_if (vt_not (vt_val (v_call hK G_is_within (hr.mono (by decide)) (by rfl) D_is_within.m D_is_within.F.kp D_is_within.b hx (va_cons (v_var (pv 3)) (va_cons (v_int pe_int) (va_cons (v_int (pe_glob (v := .int _) (by rfl) T.c_MOST_FINE ⟨_, rfl⟩)) va_nil))))))
(vs_one (vs_raise (f := "part") hK rfl tk T.e_BadRoom GE_BadRoom T.np_BadRoom (hr.mono (by decide)) (by rfl) (v_str pe_str)))
vs_nil)
(vs_cons (vs_if (vt_not (vt_val (v_call hK G_hang_together (hr.mono (by decide)) (by rfl) D_hang_together.m D_hang_together.F.kp D_hang_together.b hx (va_cons (v_self hK T.cl_Room T.no_Room_squares (pv 0) (by rfl)) (va_cons (v_self hK T.cl_Room T.no_Room_shut (pv 0) (by rfl)) va_nil)))))
(vs_one (vs_raise (f := "part") hK rfl tk T.e_Misfit GE_Misfit T.np_Misfit (hr.mono (by decide)) (by rfl) (v_str pe_str)))
vs_nil)
(vs_cons (vs_attr hK T.cl_Room T.no_Room_fine (pv 0) (v_var (pv 3)) (by rfl))
(vs_cons (vs_attr hK T.cl_Room T.no_Room_many (pv 0) (v_callB (b_len hK) c_len (by rfl) T.n_len (by decide +kernel) (va_cons (v_self hK T.cl_Room T.no_Room_squares (pv 0) (by rfl)) va_nil)) (by rfl))
(vs_one (vs_attr hK T.cl_Room T.no_Room_beyond (pv 0) (v_call hK G__all_beyond (hr.mono (by decide)) (by rfl) D__all_beyond.m D__all_beyond.F.kp D__all_beyond.b hx (va_cons (v_self hK T.cl_Room T.no_Room_squares (pv 0) (by rfl)) (va_cons (v_self hK T.cl_Room T.no_Room_shut (pv 0) (by rfl)) va_nil))) (by rfl))))))))), fun t ds Pq h => ?_⟩)
  obtain ⟨a, b, f, rfl, oa, ob, of, few, q⟩ := h
  simp only [uSeq, later_cons, uNext, uRet, uRetN, uIf, uSet, uSetO, uAsg, uFrz, uFrz1, frzAll, frz1, retE, uVar, uK, u2, wI, cYes, wEq, wIsN, wIx, wMem, uAnd, uOr, uNot, uB, uTAnd, uTOr, uTNot, uRowT, uIte, uChain, uNil, uCons, uLst, uTup, uFld, uSelf, uC, wLen, wTupOf, wI1, wI2, wInt, wBls, wInts, wIsi1, wIsiC, uIsRow, uCall, uCallN, uT, uTs, rowD_lst, rowD_tup, rowD_int, isBk, uRaise, uPar, uParOO, uApp, uExt, uPop, uAug, uNeg, uTIx, wCat, frs0, List.map_cons, List.map_nil, List.getElem?_cons_zero, List.getElem?_cons_succ, List.set_cons_zero, List.set_cons_succ, List.length_cons, List.length_nil, List.nil_append, List.cons_append, Nat.reduceAdd, Nat.reduceSub, List.replicate_zero, List.replicate_succ, isNonD, isFlat, xor_f, xor_t, Bool.true_or, Bool.false_or, Bool.and_true, Bool.true_and, Bool.or_true, Bool.or_false, true_and, and_true, forall_const, true_implies, false_implies, implies_true, Bool.false_eq_true, reduceCtorEq, Option.some.injEq, exists_eq_left, exists_eq_left', kit_tab, exists_and_left, Option.isSome_some, Option.isSome_none, con1, con2, con3, con4, con1E, con2E, con3E, endE, CisI, CisW, CisR, CisP, CisS, atI0, atI1, uSortL, uSortSet, uLenSet, atI2, atI3, uiRow, uiVar, uiRng1, uiRng2, uLc, noOi_fr, noOi_un, noOi_ow, uIxO, List.all_cons, List.all_nil, wipeD, uExpr, uAttr, putD, uMake, uiEnum, initE, iNx, Sl.oi.injEq, and_imp, forall_eq', forall_apply_eq_imp_iff, uM0, uM1, uM2, uMp1, uMp2, eqv_lnil, shp_lnil, shp_ints, retM, uSl, uoN, uoS, wRep, wLtP, uJoin, wRepr, uKwC, wStrO, isSeqD, rowD_P, rowD_S, rowD_Sq, rowD_Sh, tup_P, tup_S, tup_S', lit_sz, shpP60, shpS60, shpsP59, shpsS59, any_P, any_S, any_I, all_P, all_S, tupK_P, tupK_S, alike_two, alike_P, alike_S, optD, shp_int, shp_non, shp_bl, eqv_int, eqv_bl, decide_eq_true_eq, decide_eq_false_iff_not, Bool.not_eq_true', Bool.not_eq_false', Bool.not_true, Bool.not_false, Bool.true_eq_false, Bool.false_eq_true, Bool.and_self, nmR, nmB, List.lookup_cons, beq_self_eq_true, if_false, if_true]
  refine ⟨a, rfl, oa, ?_⟩
  rw [sqsTold_O]
  rw [roomTold] at q
  cases e1 : sqsO a with
  | none =>
    rw [e1] at q
    exact q
  | some sq =>
    obtain ⟨l1, l8, asc, inb⟩ := sqsO_ok e1
    simp only [e1] at q
    simp only [uSeq, later_cons, uNext, uRet, uRetN, uIf, uSet, uSetO, uAsg, uFrz, uFrz1, frzAll, frz1, retE, uVar, uK, u2, wI, cYes, wEq, wIsN, wIx, wMem, uAnd, uOr, uNot, uB, uTAnd, uTOr, uTNot, uRowT, uIte, uChain, uNil, uCons, uLst, uTup, uFld, uSelf, uC, wLen, wTupOf, wI1, wI2, wInt, wBls, wInts, wIsi1, wIsiC, uIsRow, uCall, uCallN, uT, uTs, rowD_lst, rowD_tup, rowD_int, isBk, uRaise, uPar, uParOO, uApp, uExt, uPop, uAug, uNeg, uTIx, wCat, frs0, List.map_cons, List.map_nil, List.getElem?_cons_zero, List.getElem?_cons_succ, List.set_cons_zero, List.set_cons_succ, List.length_cons, List.length_nil, List.nil_append, List.cons_append, Nat.reduceAdd, Nat.reduceSub, List.replicate_zero, List.replicate_succ, isNonD, isFlat, xor_f, xor_t, Bool.true_or, Bool.false_or, Bool.and_true, Bool.true_and, Bool.or_true, Bool.or_false, true_and, and_true, forall_const, true_implies, false_implies, implies_true, Bool.false_eq_true, reduceCtorEq, Option.some.injEq, exists_eq_left, exists_eq_left', kit_tab, exists_and_left, Option.isSome_some, Option.isSome_none, con1, con2, con3, con4, con1E, con2E, con3E, endE, CisI, CisW, CisR, CisP, CisS, atI0, atI1, uSortL, uSortSet, uLenSet, atI2, atI3, uiRow, uiVar, uiRng1, uiRng2, uLc, noOi_fr, noOi_un, noOi_ow, uIxO, List.all_cons, List.all_nil, wipeD, uExpr, uAttr, putD, uMake, uiEnum, initE, iNx, Sl.oi.injEq, and_imp, forall_eq', forall_apply_eq_imp_iff, uM0, uM1, uM2, uMp1, uMp2, eqv_lnil, shp_lnil, shp_ints, retM, uSl, uoN, uoS, wRep, wLtP, uJoin, wRepr, uKwC, wStrO, isSeqD, rowD_P, rowD_S, rowD_Sq, rowD_Sh, tup_P, tup_S, tup_S', lit_sz, shpP60, shpS60, shpsP59, shpsS59, any_P, any_S, any_I, all_P, all_S, tupK_P, tupK_S, alike_two, alike_P, alike_S, optD, shp_int, shp_non, shp_bl, eqv_int, eqv_bl, decide_eq_true_eq, decide_eq_false_iff_not, Bool.not_eq_true', Bool.not_eq_false', Bool.not_true, Bool.not_false, Bool.true_eq_false, Bool.false_eq_true, Bool.and_self, nmR, nmB, List.lookup_cons, beq_self_eq_true, if_false, if_true]
    refine ⟨by decide, b, sq, rfl, ob, few, ?_⟩
    rw [shTold_O]
    cases e2 : shO sq b with
    | none =>
      rw [e2] at q
      exact q
    | some sh =>
      simp only [e2] at q
      simp only [uSeq, later_cons, uNext, uRet, uRetN, uIf, uSet, uSetO, uAsg, uFrz, uFrz1, frzAll, frz1, retE, uVar, uK, u2, wI, cYes, wEq, wIsN, wIx, wMem, uAnd, uOr, uNot, uB, uTAnd, uTOr, uTNot, uRowT, uIte, uChain, uNil, uCons, uLst, uTup, uFld, uSelf, uC, wLen, wTupOf, wI1, wI2, wInt, wBls, wInts, wIsi1, wIsiC, uIsRow, uCall, uCallN, uT, uTs, rowD_lst, rowD_tup, rowD_int, isBk, uRaise, uPar, uParOO, uApp, uExt, uPop, uAug, uNeg, uTIx, wCat, frs0, List.map_cons, List.map_nil, List.getElem?_cons_zero, List.getElem?_cons_succ, List.set_cons_zero, List.set_cons_succ, List.length_cons, List.length_nil, List.nil_append, List.cons_append, Nat.reduceAdd, Nat.reduceSub, List.replicate_zero, List.replicate_succ, isNonD, isFlat, xor_f, xor_t, Bool.true_or, Bool.false_or, Bool.and_true, Bool.true_and, Bool.or_true, Bool.or_false, true_and, and_true, forall_const, true_implies, false_implies, implies_true, Bool.false_eq_true, reduceCtorEq, Option.some.injEq, exists_eq_left, exists_eq_left', kit_tab, exists_and_left, Option.isSome_some, Option.isSome_none, con1, con2, con3, con4, con1E, con2E, con3E, endE, CisI, CisW, CisR, CisP, CisS, atI0, atI1, uSortL, uSortSet, uLenSet, atI2, atI3, uiRow, uiVar, uiRng1, uiRng2, uLc, noOi_fr, noOi_un, noOi_ow, uIxO, List.all_cons, List.all_nil, wipeD, uExpr, uAttr, putD, uMake, uiEnum, initE, iNx, Sl.oi.injEq, and_imp, forall_eq', forall_apply_eq_imp_iff, uM0, uM1, uM2, uMp1, uMp2, eqv_lnil, shp_lnil, shp_ints, retM, uSl, uoN, uoS, wRep, wLtP, uJoin, wRepr, uKwC, wStrO, isSeqD, rowD_P, rowD_S, rowD_Sq, rowD_Sh, tup_P, tup_S, tup_S', lit_sz, shpP60, shpS60, shpsP59, shpsS59, any_P, any_S, any_I, all_P, all_S, tupK_P, tupK_S, alike_two, alike_P, alike_S, optD, shp_int, shp_non, shp_bl, eqv_int, eqv_bl, decide_eq_true_eq, decide_eq_false_iff_not, Bool.not_eq_true', Bool.not_eq_false', Bool.not_true, Bool.not_false, Bool.true_eq_false, Bool.false_eq_true, Bool.and_self, nmR, nmB, List.lookup_cons, beq_self_eq_true, if_false, if_true]
      refine ⟨by decide, ⟨of, rfl, rfl⟩, fun h => ?_, fun h => ?_⟩
      · have h : numIn f (some 1) (some 24) = false := h
        rw [if_neg (by rw [h]; exact Bool.false_ne_true)] at q
        exact q
      · have h : numIn f (some 1) (some 24) = true := h
        rw [if_pos h] at q
        refine ⟨sq, sh, rfl, by omega, by omega, fun hb ih => ⟨fun z => ?_, fun z => ?_⟩⟩
        · rw [if_neg (fun y => by rw [ih.mpr y] at z; cases z)] at q
          exact q
        · rw [if_pos (ih.mp z)] at q
          refine ⟨by decide, by decide, sq, sh, rfl, by omega, by decide, ?_⟩
          rw [List.length_map]
          exact q
abbrev s_open_sides : Stmt := topS 33
theorem sc_open_sides : FnScope ["room", "sides", "number", "row", "other"] ["room"] (defScope s_open_sides) := ⟨rfl, rfl, rfl, by decide +kernel, rfl, by decide +kernel, by decide +kernel⟩
theorem ok_open_sides {f fU : Addr} {fd dU : FuncData} (D_need_room : Df K mg "need_room" s_need_room ["room", "part"] fU dU) (F : Fun K "open_sides" "open_sides" s_open_sides f fd) (T : Txt2 K mg tk aST aEN CR CB CF fB fF dB dF) : FnOk P w K mg base (L2.CX P w) 4 f fd ["room"] (spV K (C_os CR CB)) := by
  have G_need_room := ok_need_room (P := P) (w := w) (base := base) D_need_room.F T
  refine con_ok F sc_open_sides (fun m t ds Pq pe h => by obtain ⟨_, rfl, _⟩ := h; rfl) (fun c pe cdv A outer s H E hK tk hx hr => ⟨_, (vs_cons (vs_expr (v_call hK G_need_room (hr.mono (by decide)) (by rfl) D_need_room.m D_need_room.F.kp D_need_room.b hx (va_cons (v_var (pv 0)) (va_cons (v_str pe_str) va_nil))))
(vs_cons (vs_setO (i := 1) sc_open_sides.nd rfl (by first | exact Or.inl rfl | exact Or.inr rfl) (vn_lst va_nil))
(vs_cons (vs_for (T := (.tp [(.nm 2), (.nm 3)])) hK PassesOwn.leaving rfl (vi_enum hK (by rfl) T.n_enumerate (v_fld hK T.cl_Room T.no_Room_beyond (v_var (pv 0)) (by rfl))) (pg_sq (by rfl) (pgs_cons (pg_name (i := 2) sc_open_sides.nd rfl (by first | exact Or.inl rfl | exact Or.inr rfl)) (pgs_cons (pg_name (i := 3) sc_open_sides.nd rfl (by first | exact Or.inl rfl | exact Or.inr rfl)) pgs_nil)))
(vs_one (vs_for (T := (.nm 4)) hK PassesOwn.leaving rfl (vi_var (i := 3) hK (pv 3)) (pg_name (i := 4) sc_open_sides.nd rfl (by first | exact Or.inl rfl | exact Or.inr rfl))
(vs_one (vs_if (PW.pt (vt_and (vt_cmp op_notN w_notN (v_var (pv 4)) (v_non pe_non) (nomark _)) (vt_and1 (vt_cmp op_lt w_lt (v_var (pv 2)) (v_var (pv 4)) (nomark _)))))
(vs_one (vs_app (i := 1) hK (pv 1) (v_tup (va_cons (v_ix (o_ix hK) w_ix (v_fld hK T.cl_Room T.no_Room_squares (v_var (pv 0)) (by rfl)) (v_var (pv 2)) (fun _ _ => rfl)) (va_cons (v_ix (o_ix hK) w_ix (v_fld hK T.cl_Room T.no_Room_squares (v_var (pv 0)) (by rfl)) (v_var (pv 4)) (fun _ _ => rfl)) va_nil)))))
vs_nil)))))
(vs_one (vs_frz (vs_ret (v_callTy (b_tup hK) c_tup (by rfl) T.n_tuple (by decide +kernel) (va_cons (ne_ve (vn_sortL hr.units hK (by rfl) T.n_sorted (v_var (pv 1)))) va_nil)))))))), fun t ds Pq h => ?_⟩)
  obtain ⟨d, rfl, h⟩ := h
  simp only [uSeq, later_cons, uNext, uRet, uRetN, uIf, uSet, uSetO, uAsg, uFrz, uFrz1, frzAll, frz1, retE, uVar, uK, u2, wI, cYes, wEq, wIsN, wIx, wMem, uAnd, uOr, uNot, uB, uTAnd, uTOr, uTNot, uRowT, uIte, uChain, uNil, uCons, uLst, uTup, uFld, uSelf, uC, wLen, wTupOf, wI1, wI2, wInt, wBls, wInts, wIsi1, wIsiC, uIsRow, uCall, uCallN, uT, uTs, rowD_lst, rowD_tup, rowD_int, isBk, uRaise, uPar, uParOO, uApp, uExt, uPop, uAug, uNeg, uTIx, wCat, frs0, List.map_cons, List.map_nil, List.getElem?_cons_zero, List.getElem?_cons_succ, List.set_cons_zero, List.set_cons_succ, List.length_cons, List.length_nil, List.nil_append, List.cons_append, Nat.reduceAdd, Nat.reduceSub, List.replicate_zero, List.replicate_succ, isNonD, isFlat, xor_f, xor_t, Bool.true_or, Bool.false_or, Bool.and_true, Bool.true_and, Bool.or_true, Bool.or_false, true_and, and_true, forall_const, true_implies, false_implies, implies_true, Bool.false_eq_true, reduceCtorEq, Option.some.injEq, exists_eq_left, exists_eq_left', kit_tab, exists_and_left, Option.isSome_some, Option.isSome_none, con1, con2, con3, con4, con1E, con2E, con3E, endE, CisI, CisW, CisR, CisP, CisS, atI0, atI1, uSortL, uSortSet, uLenSet, atI2, atI3, uiRow, uiVar, uiRng1, uiRng2, uLc, noOi_fr, noOi_un, noOi_ow, uIxO, List.all_cons, List.all_nil, wipeD, uExpr, uAttr, putD, uMake, uiEnum, initE, iNx, Sl.oi.injEq, and_imp, forall_eq', forall_apply_eq_imp_iff, uM0, uM1, uM2, uMp1, uMp2, eqv_lnil, shp_lnil, shp_ints, retM, uSl, uoN, uoS, wRep, wLtP, uJoin, wRepr, uKwC, wStrO, isSeqD, rowD_P, rowD_S, rowD_Sq, rowD_Sh, tup_P, tup_S, tup_S', lit_sz, shpP60, shpS60, shpsP59, shpsS59, any_P, any_S, any_I, all_P, all_S, tupK_P, tupK_S, alike_two, alike_P, alike_S, optD, shp_int, shp_non, shp_bl, eqv_int, eqv_bl, decide_eq_true_eq, decide_eq_false_iff_not, Bool.not_eq_true', Bool.not_eq_false', Bool.not_true, Bool.not_false, Bool.true_eq_false, Bool.false_eq_true, Bool.and_self]
  rcases h with ⟨sq, sh, f, rfl, few, q⟩ | ⟨ok, q⟩
  · refine ⟨_, _, rfl, .inr (by simp [isRoom, roomD]), fun _ => ?_, fun z => by simp [isRoom, roomD] at z⟩
    simp only [uSeq, later_cons, uNext, uRet, uRetN, uIf, uSet, uSetO, uAsg, uFrz, uFrz1, frzAll, frz1, retE, uVar, uK, u2, wI, cYes, wEq, wIsN, wIx, wMem, uAnd, uOr, uNot, uB, uTAnd, uTOr, uTNot, uRowT, uIte, uChain, uNil, uCons, uLst, uTup, uFld, uSelf, uC, wLen, wTupOf, wI1, wI2, wInt, wBls, wInts, wIsi1, wIsiC, uIsRow, uCall, uCallN, uT, uTs, rowD_lst, rowD_tup, rowD_int, isBk, uRaise, uPar, uParOO, uApp, uExt, uPop, uAug, uNeg, uTIx, wCat, frs0, List.map_cons, List.map_nil, List.getElem?_cons_zero, List.getElem?_cons_succ, List.set_cons_zero, List.set_cons_succ, List.length_cons, List.length_nil, List.nil_append, List.cons_append, Nat.reduceAdd, Nat.reduceSub, List.replicate_zero, List.replicate_succ, isNonD, isFlat, xor_f, xor_t, Bool.true_or, Bool.false_or, Bool.and_true, Bool.true_and, Bool.or_true, Bool.or_false, true_and, and_true, forall_const, true_implies, false_implies, implies_true, Bool.false_eq_true, reduceCtorEq, Option.some.injEq, exists_eq_left, exists_eq_left', kit_tab, exists_and_left, Option.isSome_some, Option.isSome_none, con1, con2, con3, con4, con1E, con2E, con3E, endE, CisI, CisW, CisR, CisP, CisS, atI0, atI1, uSortL, uSortSet, uLenSet, atI2, atI3, uiRow, uiVar, uiRng1, uiRng2, uLc, noOi_fr, noOi_un, noOi_ow, uIxO, List.all_cons, List.all_nil, wipeD, uExpr, uAttr, putD, uMake, uiEnum, initE, iNx, Sl.oi.injEq, and_imp, forall_eq', forall_apply_eq_imp_iff, uM0, uM1, uM2, uMp1, uMp2, eqv_lnil, shp_lnil, shp_ints, retM, uSl, uoN, uoS, wRep, wLtP, uJoin, wRepr, uKwC, wStrO, isSeqD, rowD_P, rowD_S, rowD_Sq, rowD_Sh, tup_P, tup_S, tup_S', lit_sz, shpP60, shpS60, shpsP59, shpsS59, any_P, any_S, any_I, all_P, all_S, tupK_P, tupK_S, alike_two, alike_P, alike_S, optD, shp_int, shp_non, shp_bl, eqv_int, eqv_bl, decide_eq_true_eq, decide_eq_false_iff_not, Bool.not_eq_true', Bool.not_eq_false', Bool.not_true, Bool.not_false, Bool.true_eq_false, Bool.false_eq_true, Bool.and_self, roomD, nmR, nmB, List.lookup_cons, beq_self_eq_true]
    simp only [uFor, uSeq, later_cons, uNext, uRet, uRetN, uIf, uSet, uSetO, uAsg, uFrz, uFrz1, frzAll, frz1, retE, uVar, uK, u2, wI, cYes, wEq, wIsN, wIx, wMem, uAnd, uOr, uNot, uB, uTAnd, uTOr, uTNot, uRowT, uIte, uChain, uNil, uCons, uLst, uTup, uFld, uSelf, uC, wLen, wTupOf, wI1, wI2, wInt, wBls, wInts, wIsi1, wIsiC, uIsRow, uCall, uCallN, uT, uTs, rowD_lst, rowD_tup, rowD_int, isBk, uRaise, uPar, uParOO, uApp, uExt, uPop, uAug, uNeg, uTIx, wCat, frs0, List.map_cons, List.map_nil, List.getElem?_cons_zero, List.getElem?_cons_succ, List.set_cons_zero, List.set_cons_succ, List.length_cons, List.length_nil, List.nil_append, List.cons_append, Nat.reduceAdd, Nat.reduceSub, List.replicate_zero, List.replicate_succ, isNonD, isFlat, xor_f, xor_t, Bool.true_or, Bool.false_or, Bool.and_true, Bool.true_and, Bool.or_true, Bool.or_false, true_and, and_true, forall_const, true_implies, false_implies, implies_true, Bool.false_eq_true, reduceCtorEq, Option.some.injEq, exists_eq_left, exists_eq_left', kit_tab, exists_and_left, Option.isSome_some, Option.isSome_none, con1, con2, con3, con4, con1E, con2E, con3E, endE, CisI, CisW, CisR, CisP, CisS, atI0, atI1, uSortL, uSortSet, uLenSet, atI2, atI3, uiRow, uiVar, uiRng1, uiRng2, uLc, noOi_fr, noOi_un, noOi_ow, uIxO, List.all_cons, List.all_nil, wipeD, uExpr, uAttr, putD, uMake, uiEnum, initE, iNx, Sl.oi.injEq, and_imp, forall_eq', forall_apply_eq_imp_iff, uM0, uM1, uM2, uMp1, uMp2, eqv_lnil, shp_lnil, shp_ints, retM, uSl, uoN, uoS, wRep, wLtP, uJoin, wRepr, uKwC, wStrO, isSeqD, rowD_P, rowD_S, rowD_Sq, rowD_Sh, tup_P, tup_S, tup_S', lit_sz, shpP60, shpS60, shpsP59, shpsS59, any_P, any_S, any_I, all_P, all_S, tupK_P, tupK_S, alike_two, alike_P, alike_S, optD, shp_int, shp_non, shp_bl, eqv_int, eqv_bl, decide_eq_true_eq, decide_eq_false_iff_not, Bool.not_eq_true', Bool.not_eq_false', Bool.not_true, Bool.not_false, Bool.true_eq_false, Bool.false_eq_true, Bool.and_self, List.lookup_cons, beq_self_eq_true, nmB, roomD]
    have gE : ∀ n, n < sq.length → sq[n]? = some (sq.getD n (0, 0)) := fun n h => by rw [List.getD_eq_getElem?_getD, List.getElem?_eq_getElem h]; rfl
    refine forG_i (fun i t' δ => t' = t ∧ i ≤ sq.length ∧ ∃ x2 x3 x4, δ = [.fr (roomD CR sq sh f), .ow ((openPre sq (beys sq sh) i).map encS), x2, x3, x4]) ⟨rfl, Nat.zero_le _, _, _, _, rfl⟩ ?_ ?_
    · rintro i d t' δ ei ⟨rfl, _, x2, x3, x4, rfl⟩ N hN
      obtain ⟨x, ex, rfl⟩ := enD_get ei
      rw [List.getElem?_map] at ex
      cases er : (beys sq sh)[i]? with
      | none => rw [er] at ex; cases ex
      | some r =>
        rw [er] at ex
        cases ex
        have li : i < sq.length := by
          have := (List.getElem?_eq_some_iff.mp er).1
          rwa [beys, List.length_map] at this
        obtain ⟨r', er', nr, lr⟩ := beys_at (sh := sh) li
        rw [er] at er'
        cases er'
        have gr : (beys sq sh).getD i [] = r := by rw [List.getD_eq_getElem?_getD, er]; rfl
        simp only [uFor, uSeq, later_cons, uNext, uRet, uRetN, uIf, uSet, uSetO, uAsg, uFrz, uFrz1, frzAll, frz1, retE, uVar, uK, u2, wI, cYes, wEq, wIsN, wIx, wMem, uAnd, uOr, uNot, uB, uTAnd, uTOr, uTNot, uRowT, uIte, uChain, uNil, uCons, uLst, uTup, uFld, uSelf, uC, wLen, wTupOf, wI1, wI2, wInt, wBls, wInts, wIsi1, wIsiC, uIsRow, uCall, uCallN, uT, uTs, rowD_lst, rowD_tup, rowD_int, isBk, uRaise, uPar, uParOO, uApp, uExt, uPop, uAug, uNeg, uTIx, wCat, frs0, List.map_cons, List.map_nil, List.getElem?_cons_zero, List.getElem?_cons_succ, List.set_cons_zero, List.set_cons_succ, List.length_cons, List.length_nil, List.nil_append, List.cons_append, Nat.reduceAdd, Nat.reduceSub, List.replicate_zero, List.replicate_succ, isNonD, isFlat, xor_f, xor_t, Bool.true_or, Bool.false_or, Bool.and_true, Bool.true_and, Bool.or_true, Bool.or_false, true_and, and_true, forall_const, true_implies, false_implies, implies_true, Bool.false_eq_true, reduceCtorEq, Option.some.injEq, exists_eq_left, exists_eq_left', kit_tab, exists_and_left, Option.isSome_some, Option.isSome_none, con1, con2, con3, con4, con1E, con2E, con3E, endE, CisI, CisW, CisR, CisP, CisS, atI0, atI1, uSortL, uSortSet, uLenSet, atI2, atI3, uiRow, uiVar, uiRng1, uiRng2, uLc, noOi_fr, noOi_un, noOi_ow, uIxO, List.all_cons, List.all_nil, wipeD, uExpr, uAttr, putD, uMake, uiEnum, initE, iNx, Sl.oi.injEq, and_imp, forall_eq', forall_apply_eq_imp_iff, uM0, uM1, uM2, uMp1, uMp2, eqv_lnil, shp_lnil, shp_ints, retM, uSl, uoN, uoS, wRep, wLtP, uJoin, wRepr, uKwC, wStrO, isSeqD, rowD_P, rowD_S, rowD_Sq, rowD_Sh, tup_P, tup_S, tup_S', lit_sz, shpP60, shpS60, shpsP59, shpsS59, any_P, any_S, any_I, all_P, all_S, tupK_P, tupK_S, alike_two, alike_P, alike_S, optD, shp_int, shp_non, shp_bl, eqv_int, eqv_bl, decide_eq_true_eq, decide_eq_false_iff_not, Bool.not_eq_true', Bool.not_eq_false', Bool.not_true, Bool.not_false, Bool.true_eq_false, Bool.false_eq_true, Bool.and_self, Nat.zero_add]
        refine forG_i (fun j t'' δ => t'' = t' ∧ ∃ x4, δ = [.fr (roomD CR sq sh f), .ow ((openPre sq (beys sq sh) i ++ rowOpen sq i (r.take j)).map encS), .fr (.int i), .fr (.tup (r.map optD)), x4]) ⟨rfl, _, by simp [rowOpen]; rfl⟩ ?_ ?_
        · rintro j d t'' δ ej ⟨rfl, x4, rfl⟩ N2 hN2
          rw [List.getElem?_map] at ej
          cases eo : r[j]? with
          | none => rw [eo] at ej; cases ej
          | some o =>
            rw [eo] at ej
            cases ej
            have tk1 : r.take (j + 1) = r.take j ++ [o] := by rw [List.take_succ, eo]; rfl
            have lp : ∀ l : List Sd, (openPre sq (beys sq sh) i ++ rowOpen sq i (r.take j)) = l → l.length < sizeLine := fun l h => by
              have h1 := openPre_len (sq := sq) (sh := sh) i
              have h2 := rowOpen_len sq i (r.take j)
              rw [List.length_take] at h2
              rw [← h, List.length_append, sizeLine_eq]
              omega
            cases o with
            | none =>
              have e2 : rowOpen sq i (r.take (j + 1)) = rowOpen sq i (r.take j) := by
                rw [tk1]
                unfold rowOpen
                rw [List.filterMap_append]
                simp
              simp only [uSeq, later_cons, uNext, uRet, uRetN, uIf, uSet, uSetO, uAsg, uFrz, uFrz1, frzAll, frz1, retE, uVar, uK, u2, wI, cYes, wEq, wIsN, wIx, wMem, uAnd, uOr, uNot, uB, uTAnd, uTOr, uTNot, uRowT, uIte, uChain, uNil, uCons, uLst, uTup, uFld, uSelf, uC, wLen, wTupOf, wI1, wI2, wInt, wBls, wInts, wIsi1, wIsiC, uIsRow, uCall, uCallN, uT, uTs, rowD_lst, rowD_tup, rowD_int, isBk, uRaise, uPar, uParOO, uApp, uExt, uPop, uAug, uNeg, uTIx, wCat, frs0, List.map_cons, List.map_nil, List.getElem?_cons_zero, List.getElem?_cons_succ, List.set_cons_zero, List.set_cons_succ, List.length_cons, List.length_nil, List.nil_append, List.cons_append, Nat.reduceAdd, Nat.reduceSub, List.replicate_zero, List.replicate_succ, isNonD, isFlat, xor_f, xor_t, Bool.true_or, Bool.false_or, Bool.and_true, Bool.true_and, Bool.or_true, Bool.or_false, true_and, and_true, forall_const, true_implies, false_implies, implies_true, Bool.false_eq_true, reduceCtorEq, Option.some.injEq, exists_eq_left, exists_eq_left', kit_tab, exists_and_left, Option.isSome_some, Option.isSome_none, con1, con2, con3, con4, con1E, con2E, con3E, endE, CisI, CisW, CisR, CisP, CisS, atI0, atI1, uSortL, uSortSet, uLenSet, atI2, atI3, uiRow, uiVar, uiRng1, uiRng2, uLc, noOi_fr, noOi_un, noOi_ow, uIxO, List.all_cons, List.all_nil, wipeD, uExpr, uAttr, putD, uMake, uiEnum, initE, iNx, Sl.oi.injEq, and_imp, forall_eq', forall_apply_eq_imp_iff, uM0, uM1, uM2, uMp1, uMp2, eqv_lnil, shp_lnil, shp_ints, retM, uSl, uoN, uoS, wRep, wLtP, uJoin, wRepr, uKwC, wStrO, isSeqD, rowD_P, rowD_S, rowD_Sq, rowD_Sh, tup_P, tup_S, tup_S', lit_sz, shpP60, shpS60, shpsP59, shpsS59, any_P, any_S, any_I, all_P, all_S, tupK_P, tupK_S, alike_two, alike_P, alike_S, optD, shp_int, shp_non, shp_bl, eqv_int, eqv_bl, decide_eq_true_eq, decide_eq_false_iff_not, Bool.not_eq_true', Bool.not_eq_false', Bool.not_true, Bool.not_false, Bool.true_eq_false, Bool.false_eq_true, Bool.and_self]
              exact hN2 _ _ ⟨rfl, _, by rw [e2]⟩
            | some m =>
              have hm : m < sq.length := by
                have : m ∈ nums r := List.mem_filterMap.mpr ⟨some m, List.mem_of_getElem? eo, rfl⟩
                rw [nr] at this
                exact nbN_low m this
              by_cases im : i < m
              · have e2 : rowOpen sq i (r.take (j + 1)) = rowOpen sq i (r.take j) ++ [(sq.getD i (0, 0), sq.getD m (0, 0))] := by
                  rw [tk1]
                  unfold rowOpen
                  rw [List.filterMap_append]
                  simp [im]
                have il : ((i : Int) < (m : Int)) = True := eq_true (by omega)
                simp only [uSeq, later_cons, uNext, uRet, uRetN, uIf, uSet, uSetO, uAsg, uFrz, uFrz1, frzAll, frz1, retE, uVar, uK, u2, wI, cYes, wEq, wIsN, wIx, wMem, uAnd, uOr, uNot, uB, uTAnd, uTOr, uTNot, uRowT, uIte, uChain, uNil, uCons, uLst, uTup, uFld, uSelf, uC, wLen, wTupOf, wI1, wI2, wInt, wBls, wInts, wIsi1, wIsiC, uIsRow, uCall, uCallN, uT, uTs, rowD_lst, rowD_tup, rowD_int, isBk, uRaise, uPar, uParOO, uApp, uExt, uPop, uAug, uNeg, uTIx, wCat, frs0, List.map_cons, List.map_nil, List.getElem?_cons_zero, List.getElem?_cons_succ, List.set_cons_zero, List.set_cons_succ, List.length_cons, List.length_nil, List.nil_append, List.cons_append, Nat.reduceAdd, Nat.reduceSub, List.replicate_zero, List.replicate_succ, isNonD, isFlat, xor_f, xor_t, Bool.true_or, Bool.false_or, Bool.and_true, Bool.true_and, Bool.or_true, Bool.or_false, true_and, and_true, forall_const, true_implies, false_implies, implies_true, Bool.false_eq_true, reduceCtorEq, Option.some.injEq, exists_eq_left, exists_eq_left', kit_tab, exists_and_left, Option.isSome_some, Option.isSome_none, con1, con2, con3, con4, con1E, con2E, con3E, endE, CisI, CisW, CisR, CisP, CisS, atI0, atI1, uSortL, uSortSet, uLenSet, atI2, atI3, uiRow, uiVar, uiRng1, uiRng2, uLc, noOi_fr, noOi_un, noOi_ow, uIxO, List.all_cons, List.all_nil, wipeD, uExpr, uAttr, putD, uMake, uiEnum, initE, iNx, Sl.oi.injEq, and_imp, forall_eq', forall_apply_eq_imp_iff, uM0, uM1, uM2, uMp1, uMp2, eqv_lnil, shp_lnil, shp_ints, retM, uSl, uoN, uoS, wRep, wLtP, uJoin, wRepr, uKwC, wStrO, isSeqD, rowD_P, rowD_S, rowD_Sq, rowD_Sh, tup_P, tup_S, tup_S', lit_sz, shpP60, shpS60, shpsP59, shpsS59, any_P, any_S, any_I, all_P, all_S, tupK_P, tupK_S, alike_two, alike_P, alike_S, optD, shp_int, shp_non, shp_bl, eqv_int, eqv_bl, decide_eq_true_eq, decide_eq_false_iff_not, Bool.not_eq_true', Bool.not_eq_false', Bool.not_true, Bool.not_false, Bool.true_eq_false, Bool.false_eq_true, Bool.and_self, il, roomD, List.lookup_cons, beq_self_eq_true, nmB, atI_map, gE i li, gE m hm, Option.map_some]
                have e3 : (openPre sq (beys sq sh) i ++ rowOpen sq i (r.take j)).map encS ++ [encS (sq.getD i (0, 0), sq.getD m (0, 0))] = (openPre sq (beys sq sh) i ++ rowOpen sq i (r.take (j + 1))).map encS := by
                  rw [e2, ← List.append_assoc, List.map_append (l₂ := [_])]
                  rfl
                rw [e3]
                exact ⟨⟨by rw [List.length_map]; exact lp _ rfl, hN2 _ _ ⟨rfl, _, rfl⟩⟩, fun z => absurd trivial z⟩
              · have e2 : rowOpen sq i (r.take (j + 1)) = rowOpen sq i (r.take j) := by
                  rw [tk1]
                  unfold rowOpen
                  rw [List.filterMap_append]
                  simp [im]
                have il : ((i : Int) < (m : Int)) = False := eq_false (by omega)
                simp only [uSeq, later_cons, uNext, uRet, uRetN, uIf, uSet, uSetO, uAsg, uFrz, uFrz1, frzAll, frz1, retE, uVar, uK, u2, wI, cYes, wEq, wIsN, wIx, wMem, uAnd, uOr, uNot, uB, uTAnd, uTOr, uTNot, uRowT, uIte, uChain, uNil, uCons, uLst, uTup, uFld, uSelf, uC, wLen, wTupOf, wI1, wI2, wInt, wBls, wInts, wIsi1, wIsiC, uIsRow, uCall, uCallN, uT, uTs, rowD_lst, rowD_tup, rowD_int, isBk, uRaise, uPar, uParOO, uApp, uExt, uPop, uAug, uNeg, uTIx, wCat, frs0, List.map_cons, List.map_nil, List.getElem?_cons_zero, List.getElem?_cons_succ, List.set_cons_zero, List.set_cons_succ, List.length_cons, List.length_nil, List.nil_append, List.cons_append, Nat.reduceAdd, Nat.reduceSub, List.replicate_zero, List.replicate_succ, isNonD, isFlat, xor_f, xor_t, Bool.true_or, Bool.false_or, Bool.and_true, Bool.true_and, Bool.or_true, Bool.or_false, true_and, and_true, forall_const, true_implies, false_implies, implies_true, Bool.false_eq_true, reduceCtorEq, Option.some.injEq, exists_eq_left, exists_eq_left', kit_tab, exists_and_left, Option.isSome_some, Option.isSome_none, con1, con2, con3, con4, con1E, con2E, con3E, endE, CisI, CisW, CisR, CisP, CisS, atI0, atI1, uSortL, uSortSet, uLenSet, atI2, atI3, uiRow, uiVar, uiRng1, uiRng2, uLc, noOi_fr, noOi_un, noOi_ow, uIxO, List.all_cons, List.all_nil, wipeD, uExpr, uAttr, putD, uMake, uiEnum, initE, iNx, Sl.oi.injEq, and_imp, forall_eq', forall_apply_eq_imp_iff, uM0, uM1, uM2, uMp1, uMp2, eqv_lnil, shp_lnil, shp_ints, retM, uSl, uoN, uoS, wRep, wLtP, uJoin, wRepr, uKwC, wStrO, isSeqD, rowD_P, rowD_S, rowD_Sq, rowD_Sh, tup_P, tup_S, tup_S', lit_sz, shpP60, shpS60, shpsP59, shpsS59, any_P, any_S, any_I, all_P, all_S, tupK_P, tupK_S, alike_two, alike_P, alike_S, optD, shp_int, shp_non, shp_bl, eqv_int, eqv_bl, decide_eq_true_eq, decide_eq_false_iff_not, Bool.not_eq_true', Bool.not_eq_false', Bool.not_true, Bool.not_false, Bool.true_eq_false, Bool.false_eq_true, Bool.and_self, il, not_false_eq_true]
                exact hN2 _ _ ⟨rfl, _, by rw [e2]⟩
        · rintro t'' δ ⟨rfl, x4, rfl⟩
          have e2 : openPre sq (beys sq sh) i ++ rowOpen sq i r = openPre sq (beys sq sh) (i + 1) := by rw [openPre_succ, gr]
          rw [List.length_map, List.take_length, e2]
          exact hN _ _ ⟨rfl, li, _, _, _, rfl⟩
    · rintro t' δ ⟨rfl, _, x2, x3, x4, rfl⟩
      rw [enD_len, List.length_map, beys, List.length_map]
      have e3 : (sq.map fun p => [bey sq sh p 0, bey sq sh p 1, bey sq sh p 2, bey sq sh p 3]) = beys sq sh := rfl
      simp only [uSeq, later_cons, uNext, uRet, uRetN, uIf, uSet, uSetO, uAsg, uFrz, uFrz1, frzAll, frz1, retE, uVar, uK, u2, wI, cYes, wEq, wIsN, wIx, wMem, uAnd, uOr, uNot, uB, uTAnd, uTOr, uTNot, uRowT, uIte, uChain, uNil, uCons, uLst, uTup, uFld, uSelf, uC, wLen, wTupOf, wI1, wI2, wInt, wBls, wInts, wIsi1, wIsiC, uIsRow, uCall, uCallN, uT, uTs, rowD_lst, rowD_tup, rowD_int, isBk, uRaise, uPar, uParOO, uApp, uExt, uPop, uAug, uNeg, uTIx, wCat, frs0, List.map_cons, List.map_nil, List.getElem?_cons_zero, List.getElem?_cons_succ, List.set_cons_zero, List.set_cons_succ, List.length_cons, List.length_nil, List.nil_append, List.cons_append, Nat.reduceAdd, Nat.reduceSub, List.replicate_zero, List.replicate_succ, isNonD, isFlat, xor_f, xor_t, Bool.true_or, Bool.false_or, Bool.and_true, Bool.true_and, Bool.or_true, Bool.or_false, true_and, and_true, forall_const, true_implies, false_implies, implies_true, Bool.false_eq_true, reduceCtorEq, Option.some.injEq, exists_eq_left, exists_eq_left', kit_tab, exists_and_left, Option.isSome_some, Option.isSome_none, con1, con2, con3, con4, con1E, con2E, con3E, endE, CisI, CisW, CisR, CisP, CisS, atI0, atI1, uSortL, uSortSet, uLenSet, atI2, atI3, uiRow, uiVar, uiRng1, uiRng2, uLc, noOi_fr, noOi_un, noOi_ow, uIxO, List.all_cons, List.all_nil, wipeD, uExpr, uAttr, putD, uMake, uiEnum, initE, iNx, Sl.oi.injEq, and_imp, forall_eq', forall_apply_eq_imp_iff, uM0, uM1, uM2, uMp1, uMp2, eqv_lnil, shp_lnil, shp_ints, retM, uSl, uoN, uoS, wRep, wLtP, uJoin, wRepr, uKwC, wStrO, isSeqD, rowD_P, rowD_S, rowD_Sq, rowD_Sh, tup_P, tup_S, tup_S', lit_sz, shpP60, shpS60, shpsP59, shpsS59, any_P, any_S, any_I, all_P, all_S, tupK_P, tupK_S, alike_two, alike_P, alike_S, optD, shp_int, shp_non, shp_bl, eqv_int, eqv_bl, decide_eq_true_eq, decide_eq_false_iff_not, Bool.not_eq_true', Bool.not_eq_false', Bool.not_true, Bool.not_false, Bool.true_eq_false, Bool.false_eq_true, Bool.and_self, e3]
      have h1 := openPre_len (sq := sq) (sh := sh) sq.length
      refine ⟨by rw [List.length_map, sizeLine_eq]; omega, fun M pm sr => ?_⟩
      rw [sorted_list ordS (fun _ _ => encS_inj) srtD_S pm sr]
      exact q
  · refine ⟨_, _, rfl, .inl ok, fun z => ?_, fun _ => q⟩
    cases d <;> simp [isRoom, D.ok] at z ok
end
end K06

set_option linter.all false
set_option maxRecDepth 100000
set_option maxHeartbeats 4000000
namespace K06
open PySem PySem.Spec PyProof.Rows L2 Nv VL
section
variable {P : Program} {w : World} {K : PySem.W.Frag} {mg : Str → Option Value} {base : Heap} {tk : Tok} {aST aEN CR CB CF fB fF : Addr} {dB dF : FuncData}
abbrev s_walls_of : Stmt := topS 34
theorem sc_walls_of : FnScope ["room", "walls", "number", "i", "j", "side", "a", "b", "c", "d"] ["room"] (defScope s_walls_of) := ⟨rfl, rfl, rfl, by decide +kernel, rfl, by decide +kernel, by decide +kernel⟩
theorem ok_walls_of {f fU : Addr} {fd dU : FuncData} (D_need_room : Df K mg "need_room" s_need_room ["room", "part"] fU dU) (F : Fun K "walls_of" "walls_of" s_walls_of f fd) (T : Txt2 K mg tk aST aEN CR CB CF fB fF dB dF) : FnOk P w K mg base (L2.CX P w) 4 f fd ["room"] (spV K (C_wo CR CB)) := by
  have G_need_room := ok_need_room (P := P) (w := w) (base := base) D_need_room.F T
  refine con_ok F sc_walls_of (fun m t ds Pq pe h => by obtain ⟨_, rfl, _⟩ := h; rfl) (fun c pe cdv A outer s H E hK tk hx hr => ⟨_, (vs_cons (vs_expr (v_call hK G_need_room (hr.mono (by decide)) (by rfl) D_need_room.m D_need_room.F.kp D_need_room.b hx (va_cons (v_var (pv 0)) (va_cons (v_str pe_str) va_nil))))
(vs_cons (vs_setO (i := 1) sc_walls_of.nd rfl (by first | exact Or.inl rfl | exact Or.inr rfl) (vn_lst va_nil))
(vs_cons (vs_for (T := (.tp [(.nm 2), (.tp [(.nm 3), (.nm 4)])])) hK PassesOwn.leaving rfl (vi_enum hK (by rfl) T.n_enumerate (v_fld hK T.cl_Room T.no_Room_squares (v_var (pv 0)) (by rfl))) (pg_sq (by rfl) (pgs_cons (pg_name (i := 2) sc_walls_of.nd rfl (by first | exact Or.inl rfl | exact Or.inr rfl)) (pgs_cons (pg_sq (by rfl) (pgs_cons (pg_name (i := 3) sc_walls_of.nd rfl (by first | exact Or.inl rfl | exact Or.inr rfl)) (pgs_cons (pg_name (i := 4) sc_walls_of.nd rfl (by first | exact Or.inl rfl | exact Or.inr rfl)) pgs_nil))) pgs_nil)))
(vs_one (vs_for (T := (.tp [(.nm 5), (.tp [(.tp [(.nm 6), (.nm 7)]), (.tp [(.nm 8), (.nm 9)])])])) hK PassesOwn.leaving rfl (vi_enum hK (by rfl) T.n_enumerate (v_glob hK T.k_ENDS (by rfl))) (pg_sq (by rfl) (pgs_cons (pg_name (i := 5) sc_walls_of.nd rfl (by first | exact Or.inl rfl | exact Or.inr rfl)) (pgs_cons (pg_sq (by rfl) (pgs_cons (pg_sq (by rfl) (pgs_cons (pg_name (i := 6) sc_walls_of.nd rfl (by first | exact Or.inl rfl | exact Or.inr rfl)) (pgs_cons (pg_name (i := 7) sc_walls_of.nd rfl (by first | exact Or.inl rfl | exact Or.inr rfl)) pgs_nil))) (pgs_cons (pg_sq (by rfl) (pgs_cons (pg_name (i := 8) sc_walls_of.nd rfl (by first | exact Or.inl rfl | exact Or.inr rfl)) (pgs_cons (pg_name (i := 9) sc_walls_of.nd rfl (by first | exact Or.inl rfl | exact Or.inr rfl)) pgs_nil))) pgs_nil))) pgs_nil)))
(vs_one (vs_if (vt_cmp op_isN w_isN (v_ix (o_ix hK) w_ix (v_ix (o_ix hK) w_ix (v_fld hK T.cl_Room T.no_Room_beyond (v_var (pv 0)) (by rfl)) (v_var (pv 2)) (fun _ _ => rfl)) (v_var (pv 5)) (fun _ _ => rfl)) (v_non pe_non) (nomark _))
(vs_one (vs_app (i := 1) hK (pv 1) (v_tup (va_cons (v_tup (va_cons (v_op op_add w_add (v_var (pv 3)) (v_var (pv 6))) (va_cons (v_op op_add w_add (v_var (pv 4)) (v_var (pv 7))) va_nil))) (va_cons (v_tup (va_cons (v_op op_add w_add (v_var (pv 3)) (v_var (pv 8))) (va_cons (v_op op_add w_add (v_var (pv 4)) (v_var (pv 9))) va_nil))) va_nil)))))
vs_nil)))))
(vs_one (vs_frz (vs_ret (v_callTy (b_tup hK) c_tup (by rfl) T.n_tuple (by decide +kernel) (va_cons (ne_ve (vn_sortSet (by rfl) hr.units hK (by rfl) T.n_sorted (by rfl) T.n_set (v_var (pv 1)))) va_nil)))))))), fun t ds Pq h => ?_⟩)
  obtain ⟨d, rfl, h⟩ := h
  simp only [uSeq, later_cons, uNext, uRet, uRetN, uIf, uSet, uSetO, uAsg, uFrz, uFrz1, frzAll, frz1, retE, uVar, uK, u2, wI, cYes, wEq, wIsN, wIx, wMem, uAnd, uOr, uNot, uB, uTAnd, uTOr, uTNot, uRowT, uIte, uChain, uNil, uCons, uLst, uTup, uFld, uSelf, uC, wLen, wTupOf, wI1, wI2, wInt, wBls, wInts, wIsi1, wIsiC, uIsRow, uCall, uCallN, uT, uTs, rowD_lst, rowD_tup, rowD_int, isBk, uRaise, uPar, uParOO, uApp, uExt, uPop, uAug, uNeg, uTIx, wCat, frs0, List.map_cons, List.map_nil, List.getElem?_cons_zero, List.getElem?_cons_succ, List.set_cons_zero, List.set_cons_succ, List.length_cons, List.length_nil, List.nil_append, List.cons_append, Nat.reduceAdd, Nat.reduceSub, List.replicate_zero, List.replicate_succ, isNonD, isFlat, xor_f, xor_t, Bool.true_or, Bool.false_or, Bool.and_true, Bool.true_and, Bool.or_true, Bool.or_false, true_and, and_true, forall_const, true_implies, false_implies, implies_true, Bool.false_eq_true, reduceCtorEq, Option.some.injEq, exists_eq_left, exists_eq_left', kit_tab, exists_and_left, Option.isSome_some, Option.isSome_none, con1, con2, con3, con4, con1E, con2E, con3E, endE, CisI, CisW, CisR, CisP, CisS, atI0, atI1, uSortL, uSortSet, uLenSet, atI2, atI3, uiRow, uiVar, uiRng1, uiRng2, uLc, noOi_fr, noOi_un, noOi_ow, uIxO, List.all_cons, List.all_nil, wipeD, uExpr, uAttr, putD, uMake, uiEnum, initE, iNx, Sl.oi.injEq, and_imp, forall_eq', forall_apply_eq_imp_iff, uM0, uM1, uM2, uMp1, uMp2, eqv_lnil, shp_lnil, shp_ints, retM, uSl, uoN, uoS, wRep, wLtP, uJoin, wRepr, uKwC, wStrO, isSeqD, rowD_P, rowD_S, rowD_Sq, rowD_Sh, tup_P, tup_S, tup_S', lit_sz, shpP60, shpS60, shpsP59, shpsS59, any_P, any_S, any_I, all_P, all_S, tupK_P, tupK_S, alike_two, alike_P, alike_S, optD, shp_int, shp_non, shp_bl, eqv_int, eqv_bl, decide_eq_true_eq, decide_eq_false_iff_not, Bool.not_eq_true', Bool.not_eq_false', Bool.not_true, Bool.not_false, Bool.true_eq_false, Bool.false_eq_true, Bool.and_self]
  rcases h with ⟨sq, sh, f, rfl, few, q⟩ | ⟨ok, q⟩
  · refine ⟨_, _, rfl, .inr (by simp [isRoom, roomD]), fun _ => ?_, fun z => by simp [isRoom, roomD] at z⟩
    simp only [uFor, uSeq, later_cons, uNext, uRet, uRetN, uIf, uSet, uSetO, uAsg, uFrz, uFrz1, frzAll, frz1, retE, uVar, uK, u2, wI, cYes, wEq, wIsN, wIx, wMem, uAnd, uOr, uNot, uB, uTAnd, uTOr, uTNot, uRowT, uIte, uChain, uNil, uCons, uLst, uTup, uFld, uSelf, uC, wLen, wTupOf, wI1, wI2, wInt, wBls, wInts, wIsi1, wIsiC, uIsRow, uCall, uCallN, uT, uTs, rowD_lst, rowD_tup, rowD_int, isBk, uRaise, uPar, uParOO, uApp, uExt, uPop, uAug, uNeg, uTIx, wCat, frs0, List.map_cons, List.map_nil, List.getElem?_cons_zero, List.getElem?_cons_succ, List.set_cons_zero, List.set_cons_succ, List.length_cons, List.length_nil, List.nil_append, List.cons_append, Nat.reduceAdd, Nat.reduceSub, List.replicate_zero, List.replicate_succ, isNonD, isFlat, xor_f, xor_t, Bool.true_or, Bool.false_or, Bool.and_true, Bool.true_and, Bool.or_true, Bool.or_false, true_and, and_true, forall_const, true_implies, false_implies, implies_true, Bool.false_eq_true, reduceCtorEq, Option.some.injEq, exists_eq_left, exists_eq_left', kit_tab, exists_and_left, Option.isSome_some, Option.isSome_none, con1, con2, con3, con4, con1E, con2E, con3E, endE, CisI, CisW, CisR, CisP, CisS, atI0, atI1, uSortL, uSortSet, uLenSet, atI2, atI3, uiRow, uiVar, uiRng1, uiRng2, uLc, noOi_fr, noOi_un, noOi_ow, uIxO, List.all_cons, List.all_nil, wipeD, uExpr, uAttr, putD, uMake, uiEnum, initE, iNx, Sl.oi.injEq, and_imp, forall_eq', forall_apply_eq_imp_iff, uM0, uM1, uM2, uMp1, uMp2, eqv_lnil, shp_lnil, shp_ints, retM, uSl, uoN, uoS, wRep, wLtP, uJoin, wRepr, uKwC, wStrO, isSeqD, rowD_P, rowD_S, rowD_Sq, rowD_Sh, tup_P, tup_S, tup_S', lit_sz, shpP60, shpS60, shpsP59, shpsS59, any_P, any_S, any_I, all_P, all_S, tupK_P, tupK_S, alike_two, alike_P, alike_S, optD, shp_int, shp_non, shp_bl, eqv_int, eqv_bl, decide_eq_true_eq, decide_eq_false_iff_not, Bool.not_eq_true', Bool.not_eq_false', Bool.not_true, Bool.not_false, Bool.true_eq_false, Bool.false_eq_true, Bool.and_self, List.lookup_cons, beq_self_eq_true, nmB, roomD]
    refine forG_i (fun i t' δ => t' = t ∧ i ≤ sq.length ∧ ∃ x2 x3 x4 x5 x6 x7 x8 x9, δ = [.fr (roomD CR sq sh f), .ow ((wallsPre sq (beys sq sh) i).map encS), x2, x3, x4, x5, x6, x7, x8, x9]) ⟨rfl, Nat.zero_le _, _, _, _, _, _, _, _, _, rfl⟩ ?_ ?_
    · rintro i d t' δ ei ⟨rfl, _, x2, x3, x4, x5, x6, x7, x8, x9, rfl⟩ N hN
      obtain ⟨x, ex, rfl⟩ := enD_get ei
      rw [List.getElem?_map] at ex
      cases er : sq[i]? with
      | none => rw [er] at ex; cases ex
      | some p =>
        rw [er] at ex
        cases ex
        have li := (List.getElem?_eq_some_iff.mp er).1
        obtain ⟨r, er', nr, lr⟩ := beys_at (sh := sh) li
        have gr : (beys sq sh).getD i [] = r := by rw [List.getD_eq_getElem?_getD, er']; rfl
        have gp : sq.getD i (0, 0) = p := by rw [List.getD_eq_getElem?_getD, er]; rfl
        simp only [uFor, uSeq, later_cons, uNext, uRet, uRetN, uIf, uSet, uSetO, uAsg, uFrz, uFrz1, frzAll, frz1, retE, uVar, uK, u2, wI, cYes, wEq, wIsN, wIx, wMem, uAnd, uOr, uNot, uB, uTAnd, uTOr, uTNot, uRowT, uIte, uChain, uNil, uCons, uLst, uTup, uFld, uSelf, uC, wLen, wTupOf, wI1, wI2, wInt, wBls, wInts, wIsi1, wIsiC, uIsRow, uCall, uCallN, uT, uTs, rowD_lst, rowD_tup, rowD_int, isBk, uRaise, uPar, uParOO, uApp, uExt, uPop, uAug, uNeg, uTIx, wCat, frs0, List.map_cons, List.map_nil, List.getElem?_cons_zero, List.getElem?_cons_succ, List.set_cons_zero, List.set_cons_succ, List.length_cons, List.length_nil, List.nil_append, List.cons_append, Nat.reduceAdd, Nat.reduceSub, List.replicate_zero, List.replicate_succ, isNonD, isFlat, xor_f, xor_t, Bool.true_or, Bool.false_or, Bool.and_true, Bool.true_and, Bool.or_true, Bool.or_false, true_and, and_true, forall_const, true_implies, false_implies, implies_true, Bool.false_eq_true, reduceCtorEq, Option.some.injEq, exists_eq_left, exists_eq_left', kit_tab, exists_and_left, Option.isSome_some, Option.isSome_none, con1, con2, con3, con4, con1E, con2E, con3E, endE, CisI, CisW, CisR, CisP, CisS, atI0, atI1, uSortL, uSortSet, uLenSet, atI2, atI3, uiRow, uiVar, uiRng1, uiRng2, uLc, noOi_fr, noOi_un, noOi_ow, uIxO, List.all_cons, List.all_nil, wipeD, uExpr, uAttr, putD, uMake, uiEnum, initE, iNx, Sl.oi.injEq, and_imp, forall_eq', forall_apply_eq_imp_iff, uM0, uM1, uM2, uMp1, uMp2, eqv_lnil, shp_lnil, shp_ints, retM, uSl, uoN, uoS, wRep, wLtP, uJoin, wRepr, uKwC, wStrO, isSeqD, rowD_P, rowD_S, rowD_Sq, rowD_Sh, tup_P, tup_S, tup_S', lit_sz, shpP60, shpS60, shpsP59, shpsS59, any_P, any_S, any_I, all_P, all_S, tupK_P, tupK_S, alike_two, alike_P, alike_S, optD, shp_int, shp_non, shp_bl, eqv_int, eqv_bl, decide_eq_true_eq, decide_eq_false_iff_not, Bool.not_eq_true', Bool.not_eq_false', Bool.not_true, Bool.not_false, Bool.true_eq_false, Bool.false_eq_true, Bool.and_self, Nat.zero_add, dENDS]
        refine forG_i (fun j t'' δ => t'' = t' ∧ ∃ x5 x6 x7 x8 x9, δ = [.fr (roomD CR sq sh f), .ow ((wallsPre sq (beys sq sh) i ++ wallRow p r j).map encS), .fr (.int i), .fr (.int p.1), .fr (.int p.2), x5, x6, x7, x8, x9]) ⟨rfl, _, _, _, _, _, by simp [wallRow]; exact ⟨rfl, rfl, rfl, rfl, rfl⟩⟩ ?_ ?_
        · rintro j d t'' δ ej ⟨rfl, x5, x6, x7, x8, x9, rfl⟩ N2 hN2
          obtain ⟨y, ey, rfl⟩ := enD_get ej
          rw [List.getElem?_map] at ey
          cases ee : endsL[j]? with
          | none => rw [ee] at ey; cases ey
          | some e =>
            rw [ee] at ey
            cases ey
            have lj : j < r.length := by
              have := (List.getElem?_eq_some_iff.mp ee).1
              rw [lr]
              exact this
            have eo := List.getElem?_eq_getElem lj
            generalize r[j] = o at eo
            have sz : ((wallsPre sq (beys sq sh) i ++ wallRow p r j).map encS).length < sizeLine := by
              have h1 := wallsPre_len (sq := sq) (rows := beys sq sh) i
              have h2 := wallRow_len p r j
              rw [List.length_map, List.length_append, sizeLine_eq]
              omega
            have ab : atI ((beys sq sh).map fun r => D.tup (r.map optD)) (i : Int) = some (D.tup (r.map optD)) := by rw [atI_map, er']; rfl
            have ws := wallRow_succ p r j
            simp only [uSeq, later_cons, uNext, uRet, uRetN, uIf, uSet, uSetO, uAsg, uFrz, uFrz1, frzAll, frz1, retE, uVar, uK, u2, wI, cYes, wEq, wIsN, wIx, wMem, uAnd, uOr, uNot, uB, uTAnd, uTOr, uTNot, uRowT, uIte, uChain, uNil, uCons, uLst, uTup, uFld, uSelf, uC, wLen, wTupOf, wI1, wI2, wInt, wBls, wInts, wIsi1, wIsiC, uIsRow, uCall, uCallN, uT, uTs, rowD_lst, rowD_tup, rowD_int, isBk, uRaise, uPar, uParOO, uApp, uExt, uPop, uAug, uNeg, uTIx, wCat, frs0, List.map_cons, List.map_nil, List.getElem?_cons_zero, List.getElem?_cons_succ, List.set_cons_zero, List.set_cons_succ, List.length_cons, List.length_nil, List.nil_append, List.cons_append, Nat.reduceAdd, Nat.reduceSub, List.replicate_zero, List.replicate_succ, isNonD, isFlat, xor_f, xor_t, Bool.true_or, Bool.false_or, Bool.and_true, Bool.true_and, Bool.or_true, Bool.or_false, true_and, and_true, forall_const, true_implies, false_implies, implies_true, Bool.false_eq_true, reduceCtorEq, Option.some.injEq, exists_eq_left, exists_eq_left', kit_tab, exists_and_left, Option.isSome_some, Option.isSome_none, con1, con2, con3, con4, con1E, con2E, con3E, endE, CisI, CisW, CisR, CisP, CisS, atI0, atI1, uSortL, uSortSet, uLenSet, atI2, atI3, uiRow, uiVar, uiRng1, uiRng2, uLc, noOi_fr, noOi_un, noOi_ow, uIxO, List.all_cons, List.all_nil, wipeD, uExpr, uAttr, putD, uMake, uiEnum, initE, iNx, Sl.oi.injEq, and_imp, forall_eq', forall_apply_eq_imp_iff, uM0, uM1, uM2, uMp1, uMp2, eqv_lnil, shp_lnil, shp_ints, retM, uSl, uoN, uoS, wRep, wLtP, uJoin, wRepr, uKwC, wStrO, isSeqD, rowD_P, rowD_S, rowD_Sq, rowD_Sh, tup_P, tup_S, tup_S', lit_sz, shpP60, shpS60, shpsP59, shpsS59, any_P, any_S, any_I, all_P, all_S, tupK_P, tupK_S, alike_two, alike_P, alike_S, optD, shp_int, shp_non, shp_bl, eqv_int, eqv_bl, decide_eq_true_eq, decide_eq_false_iff_not, Bool.not_eq_true', Bool.not_eq_false', Bool.not_true, Bool.not_false, Bool.true_eq_false, Bool.false_eq_true, Bool.and_self, Nat.zero_add, roomD, List.lookup_cons, beq_self_eq_true, nmB, ab, atI_map, eo, Option.map_some]
            rw [eo, ee] at ws
            cases o with
            | none =>
              refine ⟨fun _ => ⟨sz, ?_⟩, fun z => by cases z⟩
              have e3 : (wallsPre sq (beys sq sh) i ++ wallRow p r j).map encS ++ [encS ((p.1 + e.1.1, p.2 + e.1.2), p.1 + e.2.1, p.2 + e.2.2)] = (wallsPre sq (beys sq sh) i ++ wallRow p r (j + 1)).map encS := by
                rw [ws, ← List.append_assoc, List.map_append (l₂ := [_])]
                rfl
              rw [e3]
              exact hN2 _ _ ⟨rfl, _, _, _, _, _, rfl⟩
            | some n =>
              refine ⟨fun z => (by cases z), fun _ => ?_⟩
              have e3 : wallRow p r j = wallRow p r (j + 1) := by
                rw [ws]
                exact (List.append_nil _).symm
              rw [e3]
              exact hN2 _ _ ⟨rfl, _, _, _, _, _, rfl⟩
        · rintro t'' δ ⟨rfl, x5, x6, x7, x8, x9, rfl⟩
          have e2 : wallsPre sq (beys sq sh) i ++ wallRow p r 4 = wallsPre sq (beys sq sh) (i + 1) := by rw [wallsPre_succ, gr, gp]
          rw [enD_len, List.length_map, show endsL.length = 4 from rfl, e2]
          exact hN _ _ ⟨rfl, li, _, _, _, _, _, _, _, _, rfl⟩
    · rintro t' δ ⟨rfl, _, x2, x3, x4, x5, x6, x7, x8, x9, rfl⟩
      rw [enD_len, List.length_map]
      simp only [uSeq, later_cons, uNext, uRet, uRetN, uIf, uSet, uSetO, uAsg, uFrz, uFrz1, frzAll, frz1, retE, uVar, uK, u2, wI, cYes, wEq, wIsN, wIx, wMem, uAnd, uOr, uNot, uB, uTAnd, uTOr, uTNot, uRowT, uIte, uChain, uNil, uCons, uLst, uTup, uFld, uSelf, uC, wLen, wTupOf, wI1, wI2, wInt, wBls, wInts, wIsi1, wIsiC, uIsRow, uCall, uCallN, uT, uTs, rowD_lst, rowD_tup, rowD_int, isBk, uRaise, uPar, uParOO, uApp, uExt, uPop, uAug, uNeg, uTIx, wCat, frs0, List.map_cons, List.map_nil, List.getElem?_cons_zero, List.getElem?_cons_succ, List.set_cons_zero, List.set_cons_succ, List.length_cons, List.length_nil, List.nil_append, List.cons_append, Nat.reduceAdd, Nat.reduceSub, List.replicate_zero, List.replicate_succ, isNonD, isFlat, xor_f, xor_t, Bool.true_or, Bool.false_or, Bool.and_true, Bool.true_and, Bool.or_true, Bool.or_false, true_and, and_true, forall_const, true_implies, false_implies, implies_true, Bool.false_eq_true, reduceCtorEq, Option.some.injEq, exists_eq_left, exists_eq_left', kit_tab, exists_and_left, Option.isSome_some, Option.isSome_none, con1, con2, con3, con4, con1E, con2E, con3E, endE, CisI, CisW, CisR, CisP, CisS, atI0, atI1, uSortL, uSortSet, uLenSet, atI2, atI3, uiRow, uiVar, uiRng1, uiRng2, uLc, noOi_fr, noOi_un, noOi_ow, uIxO, List.all_cons, List.all_nil, wipeD, uExpr, uAttr, putD, uMake, uiEnum, initE, iNx, Sl.oi.injEq, and_imp, forall_eq', forall_apply_eq_imp_iff, uM0, uM1, uM2, uMp1, uMp2, eqv_lnil, shp_lnil, shp_ints, retM, uSl, uoN, uoS, wRep, wLtP, uJoin, wRepr, uKwC, wStrO, isSeqD, rowD_P, rowD_S, rowD_Sq, rowD_Sh, tup_P, tup_S, tup_S', lit_sz, shpP60, shpS60, shpsP59, shpsS59, any_P, any_S, any_I, all_P, all_S, tupK_P, tupK_S, alike_two, alike_P, alike_S, optD, shp_int, shp_non, shp_bl, eqv_int, eqv_bl, decide_eq_true_eq, decide_eq_false_iff_not, Bool.not_eq_true', Bool.not_eq_false', Bool.not_true, Bool.not_false, Bool.true_eq_false, Bool.false_eq_true, Bool.and_self]
      have h1 := wallsPre_len (sq := sq) (rows := beys sq sh) sq.length
      refine ⟨by rw [List.length_map]; omega, fun M nd mm sr => ?_⟩
      obtain ⟨m, rfl, as, me⟩ := set_enc ordS (fun _ _ => encS_inj) srtD_S nd mm sr
      exact q m as me
  · refine ⟨_, _, rfl, .inl ok, fun z => ?_, fun _ => q⟩
    cases d <;> simp [isRoom, D.ok] at z ok
end
end K06

set_option linter.all false
set_option maxRecDepth 100000
set_option maxHeartbeats 4000000
namespace K06
open PySem PySem.Spec PyProof.Rows L2 Nv VL
section
variable {P : Program} {w : World} {K : PySem.W.Frag} {mg : Str → Option Value} {base : Heap} {tk : Tok} {aST aEN CR CB CF fB fF : Addr} {dB dF : FuncData}
abbrev s__law_trowel : Stmt := topS 37
theorem sc__law_trowel : FnScope ["mason", "many", "left", "turn", "cell", "mixed"] ["mason", "many"] (defScope s__law_trowel) := ⟨rfl, rfl, rfl, by decide +kernel, rfl, by decide +kernel, by decide +kernel⟩
theorem ok__law_trowel {f : Addr} {fd : FuncData} (F : Fun K "_law_trowel" "_law_trowel" s__law_trowel f fd) (T : Txt2 K mg tk aST aEN CR CB CF fB fF dB dF) : FnOk P w K mg base (L2.CX P w) 1 f fd ["mason", "many"] (spV K C_dr) := by
  refine con_okD F sc__law_trowel (fun m t ds Pq pe h => by obtain ⟨_, _, _, _, _, rfl, _⟩ := h; rfl) (fun c pe cdv A outer s H E hh hK tk hx hr => ⟨_, (vs_cons (vs_if (vt_cmp (o_eq hK hr.units) w_eq (v_m0 (i := 0) hh hK (pv 0) pe_int (fun _ _ => rfl)) (ne_ve (vn_lst va_nil)) (nomark _))
(vs_one (vs_ret (v_int pe_int)))
vs_nil)
(vs_cons (vs_if (vt_cmp op_gt w_gt (v_m2 (i := 0) hK (pv 0) pe_int (fun _ _ => rfl)) (v_int pe_int) (nomark _))
(vs_cons (vs_set (i := 2) sc__law_trowel.nd rfl (by first | exact Or.inl rfl | exact Or.inr rfl) (v_callTy call_int1 c_int (by rfl) T.n_int (by decide +kernel) (va_cons (v_m2 (i := 0) hK (pv 0) pe_int (fun _ _ => rfl)) va_nil)))
(vs_cons (vs_mp2 (i := 0) (pg_sub (pv 0) pe_int set_list) (v_op op_fdivW w_fdivW (v_var (pv 2)) (v_var (pv 1))))
(vs_one (vs_ret (v_op op_mod w_mod (v_callTy call_int1 c_int (by rfl) T.n_int (by decide +kernel) (va_cons (v_var (pv 2)) va_nil)) (v_var (pv 1)))))))
vs_nil)
(vs_cons (vs_set (i := 3) sc__law_trowel.nd rfl (by first | exact Or.inl rfl | exact Or.inr rfl) (v_m1 (i := 0) hK (pv 0) pe_int (fun _ _ => rfl)))
(vs_cons (vs_mp1 (i := 0) (pg_sub (pv 0) pe_int set_list) (v_op op_add w_add (v_var (pv 3)) (v_int pe_int)))
(vs_cons (vs_set (i := 4) sc__law_trowel.nd rfl (by first | exact Or.inl rfl | exact Or.inr rfl) (v_ix (o_ix hK) w_ix (v_m0 (i := 0) hh hK (pv 0) pe_int (fun _ _ => rfl)) (v_op op_mod w_mod (v_callTy call_int1 c_int (by rfl) T.n_int (by decide +kernel) (va_cons (v_var (pv 3)) va_nil)) (v_callB (b_len hK) c_len (by rfl) T.n_len (by decide +kernel) (va_cons (v_m0 (i := 0) hh hK (pv 0) pe_int (fun _ _ => rfl)) va_nil))) (fun _ _ => rfl)))
(vs_cons (vs_if (PW.pt (vt_and (vt_cmp op_lt w_lt (v_var (pv 3)) (v_callB (b_len hK) c_len (by rfl) T.n_len (by decide +kernel) (va_cons (v_m0 (i := 0) hh hK (pv 0) pe_int (fun _ _ => rfl)) va_nil)) (nomark _)) (vt_and1 (vt_cmp op_ge w_ge (v_callB call_abs c_abs (by rfl) T.n_abs (by decide +kernel) (va_cons (v_var (pv 4)) va_nil)) (v_op op_pow w_pow (v_int pe_int) (v_int pe_int)) (nomark _)))))
(vs_cons (vs_set (i := 2) sc__law_trowel.nd rfl (by first | exact Or.inl rfl | exact Or.inr rfl) (v_op op_add w_add (v_op op_mul w_mul (v_int pe_int) (v_op op_sub w_sub (v_callB call_abs c_abs (by rfl) T.n_abs (by decide +kernel) (va_cons (v_callTy call_int1 c_int (by rfl) T.n_int (by decide +kernel) (va_cons (v_var (pv 4)) va_nil)) va_nil)) (v_op op_pow w_pow (v_int pe_int) (v_int pe_int)))) (v_callTy call_int1 c_int (by rfl) T.n_int (by decide +kernel) (va_cons (v_cmp op_lt w_lt (v_var (pv 4)) (v_int pe_int) (nomark _)) va_nil))))
(vs_cons (vs_mp2 (i := 0) (pg_sub (pv 0) pe_int set_list) (v_op op_fdivW w_fdivW (v_var (pv 2)) (v_var (pv 1))))
(vs_one (vs_ret (v_op op_mod w_mod (v_callTy call_int1 c_int (by rfl) T.n_int (by decide +kernel) (va_cons (v_var (pv 2)) va_nil)) (v_var (pv 1)))))))
vs_nil)
(vs_cons (vs_set (i := 5) sc__law_trowel.nd rfl (by first | exact Or.inl rfl | exact Or.inr rfl) (v_op op_mod w_mod (v_callTy call_int1 c_int (by rfl) T.n_int (by decide +kernel) (va_cons (v_op op_pow w_pow (v_op op_add w_add (v_op op_add w_add (v_op op_mod w_mod (v_callTy call_int1 c_int (by rfl) T.n_int (by decide +kernel) (va_cons (v_var (pv 4)) va_nil)) (v_int pe_int)) (v_op op_mul w_mul (v_int pe_int) (v_var (pv 3)))) (v_int pe_int)) (v_int pe_int)) va_nil)) (v_int pe_int)))
(vs_cons (vs_set (i := 5) sc__law_trowel.nd rfl (by first | exact Or.inl rfl | exact Or.inr rfl) (v_op op_mod w_mod (v_callTy call_int1 c_int (by rfl) T.n_int (by decide +kernel) (va_cons (v_op op_pow w_pow (v_op op_add w_add (v_op op_add w_add (v_op op_mul w_mul (v_var (pv 5)) (v_op op_add w_add (v_op op_mul w_mul (v_int pe_int) (v_var (pv 3))) (v_int pe_int))) (v_op op_mul w_mul (v_op op_mul w_mul (v_int pe_int) (v_var (pv 3))) (v_var (pv 3)))) (v_int pe_int)) (v_int pe_int)) va_nil)) (v_int pe_int)))
(vs_one (vs_ret (v_op op_mod w_mod (v_callTy call_int1 c_int (by rfl) T.n_int (by decide +kernel) (va_cons (v_op op_fdivW w_fdivW (v_var (pv 5)) (v_int pe_int)) va_nil)) (v_var (pv 1))))))))))))), fun t ds Pq h => ?_⟩)
  obtain ⟨L, l, cs, n, em, rfl, n0, n1, t1, q⟩ := h
  have last : ∀ x : Int, ∃ u, t + 1 ≤ u ∧ Pq u (.int (x % n)) := fun x => ⟨t + 1, Nat.le_refl _, q _ (Int.emod_nonneg _ (by omega)) (Int.emod_lt_of_pos _ n0)⟩
  have last0 : ∀ x : Int, ∃ u, t ≤ u ∧ Pq u (.int (x % n)) := fun x => ⟨t + 1, Nat.le_succ _, q _ (Int.emod_nonneg _ (by omega)) (Int.emod_lt_of_pos _ n0)⟩
  have zero : ∃ u, t ≤ u ∧ Pq u (.int 0) := ⟨t + 1, Nat.le_succ _, q 0 (by omega) n0⟩
  have zero1 : ∃ u, t + 1 ≤ u ∧ Pq u (.int 0) := ⟨t + 1, Nat.le_refl _, q 0 (by omega) n0⟩
  have wd : ∀ x : Int, CDivW x n := fun x => ⟨n0, log_small n0 n1⟩
  have w64 : ∀ x : Int, CDivW x 64 := fun x => ⟨by decide, log_small (by decide) (by decide)⟩
  have emp : cs.isEmpty = false → cs ≠ [] := fun e z => by subst z; cases e
  have step : ∀ (u : Int) (p : D → Prop), cs ≠ [] → (∀ v : Int, p (.int v)) → 0 < (cs.length : Int) ∧ ∃ x, atI (cs.map D.int) (u % (cs.length : Int)) = some x ∧ isFlat x = true ∧ p x := fun u p ne h => by
    obtain ⟨v, ev⟩ := mod_at ne u
    exact ⟨by have := List.length_pos_iff.mpr ne; omega, .int v, ev, rfl, h v⟩
  simp only [uSeq, later_cons, uNext, uRet, uRetN, uIf, uSet, uSetO, uAsg, uFrz, uFrz1, frzAll, frz1, retE, uVar, uK, u2, wI, cYes, wEq, wIsN, wIx, wMem, uAnd, uOr, uNot, uB, uTAnd, uTOr, uTNot, uRowT, uIte, uChain, uNil, uCons, uLst, uTup, uFld, uSelf, uC, wLen, wTupOf, wI1, wI2, wInt, wBls, wInts, wIsi1, wIsiC, uIsRow, uCall, uCallN, uT, uTs, rowD_lst, rowD_tup, rowD_int, isBk, uRaise, uPar, uParOO, uApp, uExt, uPop, uAug, uNeg, uTIx, wCat, frs0, List.map_cons, List.map_nil, List.getElem?_cons_zero, List.getElem?_cons_succ, List.set_cons_zero, List.set_cons_succ, List.length_cons, List.length_nil, List.nil_append, List.cons_append, Nat.reduceAdd, Nat.reduceSub, List.replicate_zero, List.replicate_succ, isNonD, isFlat, xor_f, xor_t, Bool.true_or, Bool.false_or, Bool.and_true, Bool.true_and, Bool.or_true, Bool.or_false, true_and, and_true, forall_const, true_implies, false_implies, implies_true, Bool.false_eq_true, reduceCtorEq, Option.some.injEq, exists_eq_left, exists_eq_left', kit_tab, exists_and_left, Option.isSome_some, Option.isSome_none, con1, con2, con3, con4, con1E, con2E, con3E, endE, CisI, CisW, CisR, CisP, CisS, atI0, atI1, uSortL, uSortSet, uLenSet, atI2, atI3, uiRow, uiVar, uiRng1, uiRng2, uLc, noOi_fr, noOi_un, noOi_ow, uIxO, List.all_cons, List.all_nil, wipeD, uExpr, uAttr, putD, uMake, uiEnum, initE, iNx, Sl.oi.injEq, and_imp, forall_eq', forall_apply_eq_imp_iff, uM0, uM1, uM2, uMp1, uMp2, eqv_lnil, shp_lnil, shp_ints, retM, uSl, uoN, uoS, wRep, wLtP, uJoin, wRepr, uKwC, wStrO, isSeqD, rowD_P, rowD_S, rowD_Sq, rowD_Sh, tup_P, tup_S, tup_S', lit_sz, shpP60, shpS60, shpsP59, shpsS59, any_P, any_S, any_I, all_P, all_S, tupK_P, tupK_S, alike_two, alike_P, alike_S, optD, shp_int, shp_non, shp_bl, eqv_int, eqv_bl, decide_eq_true_eq, decide_eq_false_iff_not, Bool.not_eq_true', Bool.not_eq_false', Bool.not_true, Bool.not_false, Bool.true_eq_false, Bool.false_eq_true, Bool.and_self, em, List.isEmpty_map, List.length_map]
  intro c60
  refine ⟨fun _ => zero, fun ne r => ⟨fun _ r2 => ⟨wd _, n0, last0 _⟩, fun _ u u0 u1 => ⟨by omega, by omega, fun _ _ => step u _ (emp ne) fun v => ?_⟩⟩⟩
  simp only [uSeq, later_cons, uNext, uRet, uRetN, uIf, uSet, uSetO, uAsg, uFrz, uFrz1, frzAll, frz1, retE, uVar, uK, u2, wI, cYes, wEq, wIsN, wIx, wMem, uAnd, uOr, uNot, uB, uTAnd, uTOr, uTNot, uRowT, uIte, uChain, uNil, uCons, uLst, uTup, uFld, uSelf, uC, wLen, wTupOf, wI1, wI2, wInt, wBls, wInts, wIsi1, wIsiC, uIsRow, uCall, uCallN, uT, uTs, rowD_lst, rowD_tup, rowD_int, isBk, uRaise, uPar, uParOO, uApp, uExt, uPop, uAug, uNeg, uTIx, wCat, frs0, List.map_cons, List.map_nil, List.getElem?_cons_zero, List.getElem?_cons_succ, List.set_cons_zero, List.set_cons_succ, List.length_cons, List.length_nil, List.nil_append, List.cons_append, Nat.reduceAdd, Nat.reduceSub, List.replicate_zero, List.replicate_succ, isNonD, isFlat, xor_f, xor_t, Bool.true_or, Bool.false_or, Bool.and_true, Bool.true_and, Bool.or_true, Bool.or_false, true_and, and_true, forall_const, true_implies, false_implies, implies_true, Bool.false_eq_true, reduceCtorEq, Option.some.injEq, exists_eq_left, exists_eq_left', kit_tab, exists_and_left, Option.isSome_some, Option.isSome_none, con1, con2, con3, con4, con1E, con2E, con3E, endE, CisI, CisW, CisR, CisP, CisS, atI0, atI1, uSortL, uSortSet, uLenSet, atI2, atI3, uiRow, uiVar, uiRng1, uiRng2, uLc, noOi_fr, noOi_un, noOi_ow, uIxO, List.all_cons, List.all_nil, wipeD, uExpr, uAttr, putD, uMake, uiEnum, initE, iNx, Sl.oi.injEq, and_imp, forall_eq', forall_apply_eq_imp_iff, uM0, uM1, uM2, uMp1, uMp2, eqv_lnil, shp_lnil, shp_ints, retM, uSl, uoN, uoS, wRep, wLtP, uJoin, wRepr, uKwC, wStrO, isSeqD, rowD_P, rowD_S, rowD_Sq, rowD_Sh, tup_P, tup_S, tup_S', lit_sz, shpP60, shpS60, shpsP59, shpsS59, any_P, any_S, any_I, all_P, all_S, tupK_P, tupK_S, alike_two, alike_P, alike_S, optD, shp_int, shp_non, shp_bl, eqv_int, eqv_bl, decide_eq_true_eq, decide_eq_false_iff_not, Bool.not_eq_true', Bool.not_eq_false', Bool.not_true, Bool.not_false, Bool.true_eq_false, Bool.false_eq_true, Bool.and_self, em, List.isEmpty_map, List.length_map]
  repeat'
    first
      | exact last _
      | exact last0 _
      | exact zero
      | exact zero1
      | exact wd _
      | exact w64 _
      | exact pow5 (by decide) (by decide) (by decide) (by decide) (by decide) (by decide) (by assumption) (by omega)
      | exact pow3 (by decide) (by decide) (by decide) (by decide) (by decide) (by decide) (by decide) (by decide) (by decide) (by decide) (by assumption) (by omega)
      | exact mul5 (by decide) (by decide)
      | exact mul6 (by decide) (by decide) (by assumption) (by omega)
      | exact Or.inl ⟨by decide, by decide⟩
      | exact (show CPow _ _ from ⟨by decide, by decide, by decide⟩)
      | exact n0
      | decide
      | omega
      | refine And.intro ?_ ?_
      | intro _
end
end K06

set_option linter.all false
set_option maxRecDepth 100000
set_option maxHeartbeats 4000000
namespace K06
open PySem PySem.Spec PyProof.Rows L2 Nv VL
section
variable {P : Program} {w : World} {K : PySem.W.Frag} {mg : Str → Option Value} {base : Heap} {tk : Tok} {aST aEN CR CB CF fB fF : Addr} {dB dF : FuncData}
variable {fD fE fI : Addr} {dD dE dI : FuncData}
abbrev s__law_brick : Stmt := topS 38
theorem sc__law_brick : FnScope ["mason", "some"] ["mason", "some"] (defScope s__law_brick) := ⟨rfl, rfl, rfl, by decide +kernel, rfl, by decide +kernel, by decide +kernel⟩
theorem ok__law_brick {f : Addr} {fd : FuncData} (D__law_trowel : Df K mg "_law_trowel" s__law_trowel ["mason", "many"] fD dD) (F : Fun K "_law_brick" "_law_brick" s__law_brick f fd) (T : Txt2 K mg tk aST aEN CR CB CF fB fF dB dF) : FnOk P w K mg base (L2.CX P w) 2 f fd ["mason", "some"] (spV K C_pk) := by
  have G__law_trowel := ok__law_trowel (P := P) (w := w) (base := base) D__law_trowel.F T
  refine con_ok F sc__law_brick (fun m t ds Pq pe h => by obtain ⟨_, _, _, _, _, rfl, _⟩ := h; rfl) (fun c pe cdv A outer s H E hK tk hx hr => ⟨_, (vs_one (vs_ret (v_ix (o_ix hK) w_ix (v_var (pv 1)) (v_call hK G__law_trowel (hr.mono (by decide)) (by rfl) D__law_trowel.m D__law_trowel.F.kp D__law_trowel.b hx (va_cons (v_var (pv 0)) (va_cons (v_callB (b_len hK) c_len (by rfl) T.n_len (by decide +kernel) (va_cons (v_var (pv 1)) va_nil)) va_nil))) (fun _ _ => rfl)))), fun t ds Pq h => ?_⟩)
  obtain ⟨L, l, cs, es, em, rfl, n0, n1, t1, q⟩ := h
  simp only [uSeq, later_cons, uNext, uRet, uRetN, uIf, uSet, uSetO, uAsg, uFrz, uFrz1, frzAll, frz1, retE, uVar, uK, u2, wI, cYes, wEq, wIsN, wIx, wMem, uAnd, uOr, uNot, uB, uTAnd, uTOr, uTNot, uRowT, uIte, uChain, uNil, uCons, uLst, uTup, uFld, uSelf, uC, wLen, wTupOf, wI1, wI2, wInt, wBls, wInts, wIsi1, wIsiC, uIsRow, uCall, uCallN, uT, uTs, rowD_lst, rowD_tup, rowD_int, isBk, uRaise, uPar, uParOO, uApp, uExt, uPop, uAug, uNeg, uTIx, wCat, frs0, List.map_cons, List.map_nil, List.getElem?_cons_zero, List.getElem?_cons_succ, List.set_cons_zero, List.set_cons_succ, List.length_cons, List.length_nil, List.nil_append, List.cons_append, Nat.reduceAdd, Nat.reduceSub, List.replicate_zero, List.replicate_succ, isNonD, isFlat, xor_f, xor_t, Bool.true_or, Bool.false_or, Bool.and_true, Bool.true_and, Bool.or_true, Bool.or_false, true_and, and_true, forall_const, true_implies, false_implies, implies_true, Bool.false_eq_true, reduceCtorEq, Option.some.injEq, exists_eq_left, exists_eq_left', kit_tab, exists_and_left, Option.isSome_some, Option.isSome_none, con1, con2, con3, con4, con1E, con2E, con3E, endE, CisI, CisW, CisR, CisP, CisS, atI0, atI1, uSortL, uSortSet, uLenSet, atI2, atI3, uiRow, uiVar, uiRng1, uiRng2, uLc, noOi_fr, noOi_un, noOi_ow, uIxO, List.all_cons, List.all_nil, wipeD, uExpr, uAttr, putD, uMake, uiEnum, initE, iNx, Sl.oi.injEq, and_imp, forall_eq', forall_apply_eq_imp_iff, uM0, uM1, uM2, uMp1, uMp2, eqv_lnil, shp_lnil, shp_ints, retM, uSl, uoN, uoS, wRep, wLtP, uJoin, wRepr, uKwC, wStrO, isSeqD, rowD_P, rowD_S, rowD_Sq, rowD_Sh, tup_P, tup_S, tup_S', lit_sz, shpP60, shpS60, shpsP59, shpsS59, any_P, any_S, any_I, all_P, all_S, tupK_P, tupK_S, alike_two, alike_P, alike_S, optD, shp_int, shp_non, shp_bl, eqv_int, eqv_bl, decide_eq_true_eq, decide_eq_false_iff_not, Bool.not_eq_true', Bool.not_eq_false', Bool.not_true, Bool.not_false, Bool.true_eq_false, Bool.false_eq_true, Bool.and_self, em]
  refine ⟨L, l, cs, _, rfl, rfl, by omega, by omega, t1, fun v v0 v1 => ?_⟩
  obtain ⟨j, rfl⟩ : ∃ j : Nat, v = (j : Int) := ⟨v.toNat, by omega⟩
  have lj : j < es.length := by omega
  exact ⟨es[j], atI_nat (List.getElem?_eq_getElem lj), q _ (List.getElem_mem lj)⟩
abbrev s__law_beside : Stmt := topS 39
theorem sc__law_beside : FnScope ["square", "i", "j"] ["square"] (defScope s__law_beside) := ⟨rfl, rfl, rfl, by decide +kernel, rfl, by decide +kernel, by decide +kernel⟩
theorem ok__law_beside {f : Addr} {fd : FuncData} (F : Fun K "_law_beside" "_law_beside" s__law_beside f fd) (T : Txt2 K mg tk aST aEN CR CB CF fB fF dB dF) : FnOk P w K mg base (L2.CX P w) 1 f fd ["square"] (spV K C_be) := by
  refine con_ok F sc__law_beside (fun m t ds Pq pe h => by obtain ⟨_, rfl, _⟩ := h; rfl) (fun c pe cdv A outer s H E hK tk hx hr => ⟨_, (vs_cons (vs_asg (T := (.tp [(.nm 1), (.nm 2)])) hK (v_var (pv 0)) (pg_sq (by rfl) (pgs_cons (pg_name (i := 1) sc__law_beside.nd rfl (by first | exact Or.inl rfl | exact Or.inr rfl)) (pgs_cons (pg_name (i := 2) sc__law_beside.nd rfl (by first | exact Or.inl rfl | exact Or.inr rfl)) pgs_nil))))
(vs_one (vs_ret (ne_ve (vn_lst (va_cons (v_tup (va_cons (v_op op_add w_add (v_var (pv 1)) (v_int pe_int)) (va_cons (v_var (pv 2)) va_nil))) (va_cons (v_tup (va_cons (v_var (pv 1)) (va_cons (v_op op_add w_add (v_var (pv 2)) (v_int pe_int)) va_nil))) (va_cons (v_tup (va_cons (v_op op_sub w_sub (v_var (pv 1)) (v_int pe_int)) (va_cons (v_var (pv 2)) va_nil))) (va_cons (v_tup (va_cons (v_var (pv 1)) (va_cons (v_op op_sub w_sub (v_var (pv 2)) (v_int pe_int)) va_nil))) va_nil))))))))), fun t ds Pq h => ?_⟩)
  obtain ⟨p, rfl, q⟩ := h
  simp only [uSeq, later_cons, uNext, uRet, uRetN, uIf, uSet, uSetO, uAsg, uFrz, uFrz1, frzAll, frz1, retE, uVar, uK, u2, wI, cYes, wEq, wIsN, wIx, wMem, uAnd, uOr, uNot, uB, uTAnd, uTOr, uTNot, uRowT, uIte, uChain, uNil, uCons, uLst, uTup, uFld, uSelf, uC, wLen, wTupOf, wI1, wI2, wInt, wBls, wInts, wIsi1, wIsiC, uIsRow, uCall, uCallN, uT, uTs, rowD_lst, rowD_tup, rowD_int, isBk, uRaise, uPar, uParOO, uApp, uExt, uPop, uAug, uNeg, uTIx, wCat, frs0, List.map_cons, List.map_nil, List.getElem?_cons_zero, List.getElem?_cons_succ, List.set_cons_zero, List.set_cons_succ, List.length_cons, List.length_nil, List.nil_append, List.cons_append, Nat.reduceAdd, Nat.reduceSub, List.replicate_zero, List.replicate_succ, isNonD, isFlat, xor_f, xor_t, Bool.true_or, Bool.false_or, Bool.and_true, Bool.true_and, Bool.or_true, Bool.or_false, true_and, and_true, forall_const, true_implies, false_implies, implies_true, Bool.false_eq_true, reduceCtorEq, Option.some.injEq, exists_eq_left, exists_eq_left', kit_tab, exists_and_left, Option.isSome_some, Option.isSome_none, con1, con2, con3, con4, con1E, con2E, con3E, endE, CisI, CisW, CisR, CisP, CisS, atI0, atI1, uSortL, uSortSet, uLenSet, atI2, atI3, uiRow, uiVar, uiRng1, uiRng2, uLc, noOi_fr, noOi_un, noOi_ow, uIxO, List.all_cons, List.all_nil, wipeD, uExpr, uAttr, putD, uMake, uiEnum, initE, iNx, Sl.oi.injEq, and_imp, forall_eq', forall_apply_eq_imp_iff, uM0, uM1, uM2, uMp1, uMp2, eqv_lnil, shp_lnil, shp_ints, retM, uSl, uoN, uoS, wRep, wLtP, uJoin, wRepr, uKwC, wStrO, isSeqD, rowD_P, rowD_S, rowD_Sq, rowD_Sh, tup_P, tup_S, tup_S', lit_sz, shpP60, shpS60, shpsP59, shpsS59, any_P, any_S, any_I, all_P, all_S, tupK_P, tupK_S, alike_two, alike_P, alike_S, optD, shp_int, shp_non, shp_bl, eqv_int, eqv_bl, decide_eq_true_eq, decide_eq_false_iff_not, Bool.not_eq_true', Bool.not_eq_false', Bool.not_true, Bool.not_false, Bool.true_eq_false, Bool.false_eq_true, Bool.and_self]
  exact q
abbrev s__law_side : Stmt := topS 40
theorem sc__law_side : FnScope ["one", "other"] ["one", "other"] (defScope s__law_side) := ⟨rfl, rfl, rfl, by decide +kernel, rfl, by decide +kernel, by decide +kernel⟩
theorem ok__law_side {f : Addr} {fd : FuncData} (F : Fun K "_law_side" "_law_side" s__law_side f fd) (T : Txt2 K mg tk aST aEN CR CB CF fB fF dB dF) : FnOk P w K mg base (L2.CX P w) 1 f fd ["one", "other"] (spV K C_sd) := by
  refine con_ok F sc__law_side (fun m t ds Pq pe h => by obtain ⟨_, _, rfl, _⟩ := h; rfl) (fun c pe cdv A outer s H E hK tk hx hr => ⟨_, (vs_one (vs_ret (v_ifExp (vt_cmp (o_ltT hK hr.units) w_ltP (v_var (pv 0)) (v_var (pv 1)) (nomark _)) (v_tup (va_cons (v_var (pv 0)) (va_cons (v_var (pv 1)) va_nil))) (v_tup (va_cons (v_var (pv 1)) (va_cons (v_var (pv 0)) va_nil)))))), fun t ds Pq h => ?_⟩)
  obtain ⟨p, r, rfl, q⟩ := h
  simp only [uSeq, later_cons, uNext, uRet, uRetN, uIf, uSet, uSetO, uAsg, uFrz, uFrz1, frzAll, frz1, retE, uVar, uK, u2, wI, cYes, wEq, wIsN, wIx, wMem, uAnd, uOr, uNot, uB, uTAnd, uTOr, uTNot, uRowT, uIte, uChain, uNil, uCons, uLst, uTup, uFld, uSelf, uC, wLen, wTupOf, wI1, wI2, wInt, wBls, wInts, wIsi1, wIsiC, uIsRow, uCall, uCallN, uT, uTs, rowD_lst, rowD_tup, rowD_int, isBk, uRaise, uPar, uParOO, uApp, uExt, uPop, uAug, uNeg, uTIx, wCat, frs0, List.map_cons, List.map_nil, List.getElem?_cons_zero, List.getElem?_cons_succ, List.set_cons_zero, List.set_cons_succ, List.length_cons, List.length_nil, List.nil_append, List.cons_append, Nat.reduceAdd, Nat.reduceSub, List.replicate_zero, List.replicate_succ, isNonD, isFlat, xor_f, xor_t, Bool.true_or, Bool.false_or, Bool.and_true, Bool.true_and, Bool.or_true, Bool.or_false, true_and, and_true, forall_const, true_implies, false_implies, implies_true, Bool.false_eq_true, reduceCtorEq, Option.some.injEq, exists_eq_left, exists_eq_left', kit_tab, exists_and_left, Option.isSome_some, Option.isSome_none, con1, con2, con3, con4, con1E, con2E, con3E, endE, CisI, CisW, CisR, CisP, CisS, atI0, atI1, uSortL, uSortSet, uLenSet, atI2, atI3, uiRow, uiVar, uiRng1, uiRng2, uLc, noOi_fr, noOi_un, noOi_ow, uIxO, List.all_cons, List.all_nil, wipeD, uExpr, uAttr, putD, uMake, uiEnum, initE, iNx, Sl.oi.injEq, and_imp, forall_eq', forall_apply_eq_imp_iff, uM0, uM1, uM2, uMp1, uMp2, eqv_lnil, shp_lnil, shp_ints, retM, uSl, uoN, uoS, wRep, wLtP, uJoin, wRepr, uKwC, wStrO, isSeqD, rowD_P, rowD_S, rowD_Sq, rowD_Sh, tup_P, tup_S, tup_S', lit_sz, shpP60, shpS60, shpsP59, shpsS59, any_P, any_S, any_I, all_P, all_S, tupK_P, tupK_S, alike_two, alike_P, alike_S, optD, shp_int, shp_non, shp_bl, eqv_int, eqv_bl, decide_eq_true_eq, decide_eq_false_iff_not, Bool.not_eq_true', Bool.not_eq_false', Bool.not_true, Bool.not_false, Bool.true_eq_false, Bool.false_eq_true, Bool.and_self]
  refine ⟨p.1, p.2, rfl, r.1, r.2, rfl, ?_⟩
  rw [← sd_mk] at q
  have e : (decide (p.1 < r.1) || decide (p.1 = r.1) && decide (p.2 < r.2)) = ltP p r := rfl
  rw [e]
  exact ⟨fun z => by rw [if_pos z] at q; exact q, fun z => by rw [if_neg (by rw [z]; exact Bool.false_ne_true)] at q; exact q⟩
abbrev s__law_hangs : Stmt := topS 41
theorem sc__law_hangs : FnScope ["squares", "shut", "found", "left", "one", "other"] ["squares", "shut"] (defScope s__law_hangs) := ⟨rfl, rfl, rfl, by decide +kernel, rfl, by decide +kernel, by decide +kernel⟩
theorem ok__law_hangs {f : Addr} {fd : FuncData} (D__law_beside : Df K mg "_law_beside" s__law_beside ["square"] fE dE) (D__law_side : Df K mg "_law_side" s__law_side ["one", "other"] fI dI) (F : Fun K "_law_hangs" "_law_hangs" s__law_hangs f fd) (T : Txt2 K mg tk aST aEN CR CB CF fB fF dB dF) : FnOk P w K mg base (L2.CX P w) 2 f fd ["squares", "shut"] (spV K C_lh) := by
  have G__law_beside := ok__law_beside (P := P) (w := w) (base := base) D__law_beside.F T
  have G__law_side := ok__law_side (P := P) (w := w) (base := base) D__law_side.F T
  refine con_ok F sc__law_hangs (fun m t ds Pq pe h => by obtain ⟨_, _, rfl, _⟩ := h; rfl) (fun c pe cdv A outer s H E hK tk hx hr => ⟨_, (vs_cons (vs_parOO (i := 2) (j := 3) (by rfl) sc__law_hangs.nd rfl rfl (by decide) rfl rfl (vn_lst (va_cons (v_ix (o_ix hK) w_ix (v_var (pv 0)) (v_int pe_int) (fun _ _ => rfl)) va_nil)) (vn_lst (va_cons (v_ix (o_ix hK) w_ix (v_var (pv 0)) (v_int pe_int) (fun _ _ => rfl)) va_nil)) (by rfl))
(vs_cons (vs_while PassesOwn.leaving (vt_cmp (o_ne hK hr.units) w_ne (v_var (pv 3)) (ne_ve (vn_lst va_nil)) (nomark _))
(vs_cons (vs_pop (i := 3) (j := 4) hK (pv 3) sc__law_hangs.nd rfl (by first | exact Or.inl rfl | exact Or.inr rfl))
(vs_one (vs_for (T := (.nm 5)) hK PassesOwn.leaving rfl (vi_row hK (v_call hK G__law_beside (hr.mono (by decide)) (by rfl) D__law_beside.m D__law_beside.F.kp D__law_beside.b hx (va_cons (v_var (pv 4)) va_nil))) (pg_name (i := 5) sc__law_hangs.nd rfl (by first | exact Or.inl rfl | exact Or.inr rfl))
(vs_one (vs_if (PW.pt (vt_and (vt_cmp (o_in hK hr.units) w_in (v_var (pv 5)) (v_var (pv 0)) (by rfl)) (vt_and (vt_cmp (o_nin hK hr.units) w_in (v_var (pv 5)) (v_var (pv 2)) (by rfl)) (vt_and1 (vt_cmp (o_nin hK hr.units) w_in (v_call hK G__law_side (hr.mono (by decide)) (by rfl) D__law_side.m D__law_side.F.kp D__law_side.b hx (va_cons (v_var (pv 4)) (va_cons (v_var (pv 5)) va_nil))) (v_var (pv 1)) (by rfl))))))
(vs_cons (vs_app (i := 2) hK (pv 2) (v_var (pv 5)))
(vs_one (vs_app (i := 3) hK (pv 3) (v_var (pv 5)))))
vs_nil))))))
(vs_one (vs_frz (vs_ret (v_cmp (o_eq hK hr.units) w_eq (v_callB (b_len hK) c_len (by rfl) T.n_len (by decide +kernel) (va_cons (v_var (pv 2)) va_nil)) (v_callB (b_len hK) c_len (by rfl) T.n_len (by decide +kernel) (va_cons (v_var (pv 0)) va_nil)) (nomark _))))))), fun t ds Pq h => ?_⟩)
  obtain ⟨sq, sh, rfl, pos, few, nd, q⟩ := h
  have e0 := List.getElem?_eq_getElem pos
  generalize sq[0] = s0 at e0
  have g0 : sq.getD 0 (0, 0) = s0 := by rw [List.getD_eq_getElem?_getD, e0]; rfl
  have m0 : s0 ∈ sq := List.mem_of_getElem? e0
  have a0 : atI (sq.map encP) 0 = some (encP s0) := atI_nat (j := 0) (by rw [List.getElem?_map, e0]; rfl)
  simp only [uSeq, later_cons, uNext, uRet, uRetN, uIf, uSet, uSetO, uAsg, uFrz, uFrz1, frzAll, frz1, retE, uVar, uK, u2, wI, cYes, wEq, wIsN, wIx, wMem, uAnd, uOr, uNot, uB, uTAnd, uTOr, uTNot, uRowT, uIte, uChain, uNil, uCons, uLst, uTup, uFld, uSelf, uC, wLen, wTupOf, wI1, wI2, wInt, wBls, wInts, wIsi1, wIsiC, uIsRow, uCall, uCallN, uT, uTs, rowD_lst, rowD_tup, rowD_int, isBk, uRaise, uPar, uParOO, uApp, uExt, uPop, uAug, uNeg, uTIx, wCat, frs0, List.map_cons, List.map_nil, List.getElem?_cons_zero, List.getElem?_cons_succ, List.set_cons_zero, List.set_cons_succ, List.length_cons, List.length_nil, List.nil_append, List.cons_append, Nat.reduceAdd, Nat.reduceSub, List.replicate_zero, List.replicate_succ, isNonD, isFlat, xor_f, xor_t, Bool.true_or, Bool.false_or, Bool.and_true, Bool.true_and, Bool.or_true, Bool.or_false, true_and, and_true, forall_const, true_implies, false_implies, implies_true, Bool.false_eq_true, reduceCtorEq, Option.some.injEq, exists_eq_left, exists_eq_left', kit_tab, exists_and_left, Option.isSome_some, Option.isSome_none, con1, con2, con3, con4, con1E, con2E, con3E, endE, CisI, CisW, CisR, CisP, CisS, atI0, atI1, uSortL, uSortSet, uLenSet, atI2, atI3, uiRow, uiVar, uiRng1, uiRng2, uLc, noOi_fr, noOi_un, noOi_ow, uIxO, List.all_cons, List.all_nil, wipeD, uExpr, uAttr, putD, uMake, uiEnum, initE, iNx, Sl.oi.injEq, and_imp, forall_eq', forall_apply_eq_imp_iff, uM0, uM1, uM2, uMp1, uMp2, eqv_lnil, shp_lnil, shp_ints, retM, uSl, uoN, uoS, wRep, wLtP, uJoin, wRepr, uKwC, wStrO, isSeqD, rowD_P, rowD_S, rowD_Sq, rowD_Sh, tup_P, tup_S, tup_S', lit_sz, shpP60, shpS60, shpsP59, shpsS59, any_P, any_S, any_I, all_P, all_S, tupK_P, tupK_S, alike_two, alike_P, alike_S, optD, shp_int, shp_non, shp_bl, eqv_int, eqv_bl, decide_eq_true_eq, decide_eq_false_iff_not, Bool.not_eq_true', Bool.not_eq_false', Bool.not_true, Bool.not_false, Bool.true_eq_false, Bool.false_eq_true, Bool.and_self, a0]
  refine while_i (fun m t' δ => t' = t ∧ ∃ found left x4 x5, δ = [.fr (.lst (sq.map encP)), .fr (.lst (sh.map encS)), .ow (found.map encP), .ow (left.map encP), x4, x5] ∧ Dfs sq sh s0 found left ∧ left.length ≤ found.length ∧ m = 2 * (sq.length - found.length) + left.length) _ ⟨rfl, [s0], [s0], _, _, rfl, Dfs.start m0, Nat.le_refl _, rfl⟩ ?_
  rintro m t' δ ⟨rfl, found, left, x4, x5, rfl, df, lf, rfl⟩
  have sl : D.shp 60 (.lst (left.map encP)) = true := shps_P 58 left
  simp only [uSeq, later_cons, uNext, uRet, uRetN, uIf, uSet, uSetO, uAsg, uFrz, uFrz1, frzAll, frz1, retE, uVar, uK, u2, wI, cYes, wEq, wIsN, wIx, wMem, uAnd, uOr, uNot, uB, uTAnd, uTOr, uTNot, uRowT, uIte, uChain, uNil, uCons, uLst, uTup, uFld, uSelf, uC, wLen, wTupOf, wI1, wI2, wInt, wBls, wInts, wIsi1, wIsiC, uIsRow, uCall, uCallN, uT, uTs, rowD_lst, rowD_tup, rowD_int, isBk, uRaise, uPar, uParOO, uApp, uExt, uPop, uAug, uNeg, uTIx, wCat, frs0, List.map_cons, List.map_nil, List.getElem?_cons_zero, List.getElem?_cons_succ, List.set_cons_zero, List.set_cons_succ, List.length_cons, List.length_nil, List.nil_append, List.cons_append, Nat.reduceAdd, Nat.reduceSub, List.replicate_zero, List.replicate_succ, isNonD, isFlat, xor_f, xor_t, Bool.true_or, Bool.false_or, Bool.and_true, Bool.true_and, Bool.or_true, Bool.or_false, true_and, and_true, forall_const, true_implies, false_implies, implies_true, Bool.false_eq_true, reduceCtorEq, Option.some.injEq, exists_eq_left, exists_eq_left', kit_tab, exists_and_left, Option.isSome_some, Option.isSome_none, con1, con2, con3, con4, con1E, con2E, con3E, endE, CisI, CisW, CisR, CisP, CisS, atI0, atI1, uSortL, uSortSet, uLenSet, atI2, atI3, uiRow, uiVar, uiRng1, uiRng2, uLc, noOi_fr, noOi_un, noOi_ow, uIxO, List.all_cons, List.all_nil, wipeD, uExpr, uAttr, putD, uMake, uiEnum, initE, iNx, Sl.oi.injEq, and_imp, forall_eq', forall_apply_eq_imp_iff, uM0, uM1, uM2, uMp1, uMp2, eqv_lnil, shp_lnil, shp_ints, retM, uSl, uoN, uoS, wRep, wLtP, uJoin, wRepr, uKwC, wStrO, isSeqD, rowD_P, rowD_S, rowD_Sq, rowD_Sh, tup_P, tup_S, tup_S', lit_sz, shpP60, shpS60, shpsP59, shpsS59, any_P, any_S, any_I, all_P, all_S, tupK_P, tupK_S, alike_two, alike_P, alike_S, optD, shp_int, shp_non, shp_bl, eqv_int, eqv_bl, decide_eq_true_eq, decide_eq_false_iff_not, Bool.not_eq_true', Bool.not_eq_false', Bool.not_true, Bool.not_false, Bool.true_eq_false, Bool.false_eq_true, Bool.and_self, sl, List.isEmpty_map, List.length_map]
  refine ⟨fun ne => ?_, fun em => ?_⟩
  · have lne : left ≠ [] := fun z => by subst z; cases ne
    have lp := List.length_pos_iff.mpr lne
    obtain ⟨one, eo⟩ : ∃ one, left[left.length - 1]? = some one := ⟨_, List.getElem?_eq_getElem (by omega)⟩
    have di := df.pop eo
    refine ⟨encP one, by rw [List.getElem?_map, eo]; rfl, ?_⟩
    simp only [uFor, uSeq, later_cons, uNext, uRet, uRetN, uIf, uSet, uSetO, uAsg, uFrz, uFrz1, frzAll, frz1, retE, uVar, uK, u2, wI, cYes, wEq, wIsN, wIx, wMem, uAnd, uOr, uNot, uB, uTAnd, uTOr, uTNot, uRowT, uIte, uChain, uNil, uCons, uLst, uTup, uFld, uSelf, uC, wLen, wTupOf, wI1, wI2, wInt, wBls, wInts, wIsi1, wIsiC, uIsRow, uCall, uCallN, uT, uTs, rowD_lst, rowD_tup, rowD_int, isBk, uRaise, uPar, uParOO, uApp, uExt, uPop, uAug, uNeg, uTIx, wCat, frs0, List.map_cons, List.map_nil, List.getElem?_cons_zero, List.getElem?_cons_succ, List.set_cons_zero, List.set_cons_succ, List.length_cons, List.length_nil, List.nil_append, List.cons_append, Nat.reduceAdd, Nat.reduceSub, List.replicate_zero, List.replicate_succ, isNonD, isFlat, xor_f, xor_t, Bool.true_or, Bool.false_or, Bool.and_true, Bool.true_and, Bool.or_true, Bool.or_false, true_and, and_true, forall_const, true_implies, false_implies, implies_true, Bool.false_eq_true, reduceCtorEq, Option.some.injEq, exists_eq_left, exists_eq_left', kit_tab, exists_and_left, Option.isSome_some, Option.isSome_none, con1, con2, con3, con4, con1E, con2E, con3E, endE, CisI, CisW, CisR, CisP, CisS, atI0, atI1, uSortL, uSortSet, uLenSet, atI2, atI3, uiRow, uiVar, uiRng1, uiRng2, uLc, noOi_fr, noOi_un, noOi_ow, uIxO, List.all_cons, List.all_nil, wipeD, uExpr, uAttr, putD, uMake, uiEnum, initE, iNx, Sl.oi.injEq, and_imp, forall_eq', forall_apply_eq_imp_iff, uM0, uM1, uM2, uMp1, uMp2, eqv_lnil, shp_lnil, shp_ints, retM, uSl, uoN, uoS, wRep, wLtP, uJoin, wRepr, uKwC, wStrO, isSeqD, rowD_P, rowD_S, rowD_Sq, rowD_Sh, tup_P, tup_S, tup_S', lit_sz, shpP60, shpS60, shpsP59, shpsS59, any_P, any_S, any_I, all_P, all_S, tupK_P, tupK_S, alike_two, alike_P, alike_S, optD, shp_int, shp_non, shp_bl, eqv_int, eqv_bl, decide_eq_true_eq, decide_eq_false_iff_not, Bool.not_eq_true', Bool.not_eq_false', Bool.not_true, Bool.not_false, Bool.true_eq_false, Bool.false_eq_true, Bool.and_self]
    refine ⟨one, rfl, ?_⟩
    simp only [uSeq, later_cons, uNext, uRet, uRetN, uIf, uSet, uSetO, uAsg, uFrz, uFrz1, frzAll, frz1, retE, uVar, uK, u2, wI, cYes, wEq, wIsN, wIx, wMem, uAnd, uOr, uNot, uB, uTAnd, uTOr, uTNot, uRowT, uIte, uChain, uNil, uCons, uLst, uTup, uFld, uSelf, uC, wLen, wTupOf, wI1, wI2, wInt, wBls, wInts, wIsi1, wIsiC, uIsRow, uCall, uCallN, uT, uTs, rowD_lst, rowD_tup, rowD_int, isBk, uRaise, uPar, uParOO, uApp, uExt, uPop, uAug, uNeg, uTIx, wCat, frs0, List.map_cons, List.map_nil, List.getElem?_cons_zero, List.getElem?_cons_succ, List.set_cons_zero, List.set_cons_succ, List.length_cons, List.length_nil, List.nil_append, List.cons_append, Nat.reduceAdd, Nat.reduceSub, List.replicate_zero, List.replicate_succ, isNonD, isFlat, xor_f, xor_t, Bool.true_or, Bool.false_or, Bool.and_true, Bool.true_and, Bool.or_true, Bool.or_false, true_and, and_true, forall_const, true_implies, false_implies, implies_true, Bool.false_eq_true, reduceCtorEq, Option.some.injEq, exists_eq_left, exists_eq_left', kit_tab, exists_and_left, Option.isSome_some, Option.isSome_none, con1, con2, con3, con4, con1E, con2E, con3E, endE, CisI, CisW, CisR, CisP, CisS, atI0, atI1, uSortL, uSortSet, uLenSet, atI2, atI3, uiRow, uiVar, uiRng1, uiRng2, uLc, noOi_fr, noOi_un, noOi_ow, uIxO, List.all_cons, List.all_nil, wipeD, uExpr, uAttr, putD, uMake, uiEnum, initE, iNx, Sl.oi.injEq, and_imp, forall_eq', forall_apply_eq_imp_iff, uM0, uM1, uM2, uMp1, uMp2, eqv_lnil, shp_lnil, shp_ints, retM, uSl, uoN, uoS, wRep, wLtP, uJoin, wRepr, uKwC, wStrO, isSeqD, rowD_P, rowD_S, rowD_Sq, rowD_Sh, tup_P, tup_S, tup_S', lit_sz, shpP60, shpS60, shpsP59, shpsS59, any_P, any_S, any_I, all_P, all_S, tupK_P, tupK_S, alike_two, alike_P, alike_S, optD, shp_int, shp_non, shp_bl, eqv_int, eqv_bl, decide_eq_true_eq, decide_eq_false_iff_not, Bool.not_eq_true', Bool.not_eq_false', Bool.not_true, Bool.not_false, Bool.true_eq_false, Bool.false_eq_true, Bool.and_self]
    refine forG_i (fun j t'' δ => t'' = t' ∧ ∃ found' left' x5, δ = [.fr (.lst (sq.map encP)), .fr (.lst (sh.map encS)), .ow (found'.map encP), .ow (left'.map encP), .fr (encP one), x5] ∧ DfsI sq sh s0 found' left' one ((besL one).take j) ∧ left'.length ≤ found'.length ∧ 2 * (sq.length - found'.length) + left'.length < 2 * (sq.length - found.length) + left.length) ⟨rfl, found, left.dropLast, _, by rw [← List.map_dropLast], di, by rw [List.length_dropLast]; omega, by rw [List.length_dropLast]; omega⟩ ?_ ?_
    · rintro j d t'' δ ej ⟨rfl, fo, le, x5, rfl, dj, lf2, ms⟩ N hN
      rw [List.getElem?_map] at ej
      cases ey : (besL one)[j]? with
      | none => rw [ey] at ej; cases ej
      | some y =>
        rw [ey] at ej
        cases ej
        have tk1 : (besL one).take (j + 1) = (besL one).take j ++ [y] := by rw [List.take_succ, ey]; rfl
        have yb : y ∈ besL one := List.mem_of_getElem? ey
        have s1 : D.shps 59 (fo.map encP) = true := shps_P 58 fo
        simp only [uSeq, later_cons, uNext, uRet, uRetN, uIf, uSet, uSetO, uAsg, uFrz, uFrz1, frzAll, frz1, retE, uVar, uK, u2, wI, cYes, wEq, wIsN, wIx, wMem, uAnd, uOr, uNot, uB, uTAnd, uTOr, uTNot, uRowT, uIte, uChain, uNil, uCons, uLst, uTup, uFld, uSelf, uC, wLen, wTupOf, wI1, wI2, wInt, wBls, wInts, wIsi1, wIsiC, uIsRow, uCall, uCallN, uT, uTs, rowD_lst, rowD_tup, rowD_int, isBk, uRaise, uPar, uParOO, uApp, uExt, uPop, uAug, uNeg, uTIx, wCat, frs0, List.map_cons, List.map_nil, List.getElem?_cons_zero, List.getElem?_cons_succ, List.set_cons_zero, List.set_cons_succ, List.length_cons, List.length_nil, List.nil_append, List.cons_append, Nat.reduceAdd, Nat.reduceSub, List.replicate_zero, List.replicate_succ, isNonD, isFlat, xor_f, xor_t, Bool.true_or, Bool.false_or, Bool.and_true, Bool.true_and, Bool.or_true, Bool.or_false, true_and, and_true, forall_const, true_implies, false_implies, implies_true, Bool.false_eq_true, reduceCtorEq, Option.some.injEq, exists_eq_left, exists_eq_left', kit_tab, exists_and_left, Option.isSome_some, Option.isSome_none, con1, con2, con3, con4, con1E, con2E, con3E, endE, CisI, CisW, CisR, CisP, CisS, atI0, atI1, uSortL, uSortSet, uLenSet, atI2, atI3, uiRow, uiVar, uiRng1, uiRng2, uLc, noOi_fr, noOi_un, noOi_ow, uIxO, List.all_cons, List.all_nil, wipeD, uExpr, uAttr, putD, uMake, uiEnum, initE, iNx, Sl.oi.injEq, and_imp, forall_eq', forall_apply_eq_imp_iff, uM0, uM1, uM2, uMp1, uMp2, eqv_lnil, shp_lnil, shp_ints, retM, uSl, uoN, uoS, wRep, wLtP, uJoin, wRepr, uKwC, wStrO, isSeqD, rowD_P, rowD_S, rowD_Sq, rowD_Sh, tup_P, tup_S, tup_S', lit_sz, shpP60, shpS60, shpsP59, shpsS59, any_P, any_S, any_I, all_P, all_S, tupK_P, tupK_S, alike_two, alike_P, alike_S, optD, shp_int, shp_non, shp_bl, eqv_int, eqv_bl, decide_eq_true_eq, decide_eq_false_iff_not, Bool.not_eq_true', Bool.not_eq_false', Bool.not_true, Bool.not_false, Bool.true_eq_false, Bool.false_eq_true, Bool.and_self, s1]
        have fw := dj.few
        have skip : ¬ (y ∈ sq ∧ y ∉ fo ∧ mkS one y ∉ sh) → N t'' [.fr (.lst (sq.map encP)), .fr (.lst (sh.map encS)), .ow (fo.map encP), .ow (le.map encP), .fr (encP one), .fr (encP y)] := fun h => hN _ _ ⟨rfl, fo, le, _, rfl, by rw [tk1]; exact dj.skip h, lf2, ms⟩
        refine ⟨fun ys => ⟨fun yn => ⟨one, y, rfl, shpS60 _, ?_⟩, fun yf => skip fun z => z.2.1 yf⟩, fun yn => skip fun z => yn z.1⟩
        rw [any_S]
        refine ⟨fun ns => ⟨by rw [List.length_map, sizeLine_eq]; omega, by rw [List.length_map, sizeLine_eq]; omega, ?_⟩, fun z => skip fun u => u.2.2 (of_decide_eq_true z)⟩
        have da := dj.add yb ys yn (of_decide_eq_false ns)
        have fw2 := da.few
        have e1 : fo.map encP ++ [encP y] = (fo ++ [y]).map encP := by rw [List.map_append]; rfl
        have e2 : le.map encP ++ [encP y] = (le ++ [y]).map encP := by rw [List.map_append]; rfl
        rw [e1, e2]
        rw [List.length_append] at fw2
        refine hN _ _ ⟨rfl, _, _, _, rfl, by rw [tk1]; exact da, ?_, ?_⟩
        · rw [List.length_append, List.length_append]; omega
        · rw [List.length_append, List.length_append]
          simp only [List.length_cons, List.length_nil] at fw2 ⊢
          omega
    · rintro t'' δ ⟨rfl, fo, le, x5, rfl, dj, lf2, ms⟩
      rw [List.length_map, List.take_length] at dj
      exact ⟨_, ms, rfl, fo, le, _, _, rfl, dj.done, lf2, rfl⟩
  · have le : left = [] := by cases left with
      | nil => rfl
      | cons a r => cases em
    subst le
    refine q _ ?_
    rw [beqI, decide_eq_true_eq]
    have := df.fin nd
    unfold HangP
    rw [g0, ← this]
    omega
end
end K06

set_option linter.all false
set_option maxRecDepth 100000
set_option maxHeartbeats 4000000
namespace K06
open PySem PySem.Spec PyProof.Rows L2 Nv VL
section
variable {P : Program} {w : World} {K : PySem.W.Frag} {mg : Str → Option Value} {base : Heap} {tk : Tok} {aST aEN CR CB CF fB fF : Addr} {dB dF : FuncData}
variable {fD fE fI : Addr} {dD dE dI : FuncData}
abbrev s__law_sides : Stmt := topS 42
theorem sc__law_sides : FnScope ["squares", "found", "one", "other"] ["squares"] (defScope s__law_sides) := ⟨rfl, rfl, rfl, by decide +kernel, rfl, by decide +kernel, by decide +kernel⟩
theorem ok__law_sides {f : Addr} {fd : FuncData} (D__law_beside : Df K mg "_law_beside" s__law_beside ["square"] fE dE) (F : Fun K "_law_sides" "_law_sides" s__law_sides f fd) (T : Txt2 K mg tk aST aEN CR CB CF fB fF dB dF) : FnOk P w K mg base (L2.CX P w) 2 f fd ["squares"] (spV K C_ls) := by
  have G__law_beside := ok__law_beside (P := P) (w := w) (base := base) D__law_beside.F T
  refine con_ok F sc__law_sides (fun m t ds Pq pe h => by obtain ⟨_, rfl, _⟩ := h; rfl) (fun c pe cdv A outer s H E hK tk hx hr => ⟨_, (vs_cons (vs_setO (i := 1) sc__law_sides.nd rfl (by first | exact Or.inl rfl | exact Or.inr rfl) (vn_lst va_nil))
(vs_cons (vs_for (T := (.nm 2)) hK PassesOwn.leaving rfl (vi_var (i := 0) hK (pv 0)) (pg_name (i := 2) sc__law_sides.nd rfl (by first | exact Or.inl rfl | exact Or.inr rfl))
(vs_one (vs_ext (i := 1) hK (pv 1) (ne_ve (vn_lc hK (by rfl) sc__law_sides.nd (T := (.nm 3)) (own := [(("other" : Str), 3)]) (by decide) (vi_row hK (ne_ve (vn_slice hK (v_call hK G__law_beside (hr.mono (by decide)) (by rfl) D__law_beside.m D__law_beside.F.kp D__law_beside.b hx (va_cons (v_var (pv 2)) va_nil)) vo_none (vo_some (v_int pe_int))))) (blkOk_by (N := ["squares", "found", "one", "other"]) (sc := defScope s__law_sides) (by decide +kernel)) (fun _ _ _ _ _ => (pg_name (i := 3) sc__law_sides.nd rfl (by first | exact Or.inl rfl | exact Or.inr rfl))) (fun _ _ _ _ _ => (vts_one (vt_cmp (o_in hK hr.units) w_in (v_var (pv 3)) (v_var (pv 0)) (by rfl)))) (fun _ _ _ _ _ => (v_tup (va_cons (v_var (pv 2)) (va_cons (v_var (pv 3)) va_nil)))))))))
(vs_one (vs_frz (vs_ret (ne_ve (vn_sortL hr.units hK (by rfl) T.n_sorted (v_var (pv 1))))))))), fun t ds Pq h => ?_⟩)
  obtain ⟨sq, rfl, few, q⟩ := h
  simp only [uFor, uSeq, later_cons, uNext, uRet, uRetN, uIf, uSet, uSetO, uAsg, uFrz, uFrz1, frzAll, frz1, retE, uVar, uK, u2, wI, cYes, wEq, wIsN, wIx, wMem, uAnd, uOr, uNot, uB, uTAnd, uTOr, uTNot, uRowT, uIte, uChain, uNil, uCons, uLst, uTup, uFld, uSelf, uC, wLen, wTupOf, wI1, wI2, wInt, wBls, wInts, wIsi1, wIsiC, uIsRow, uCall, uCallN, uT, uTs, rowD_lst, rowD_tup, rowD_int, isBk, uRaise, uPar, uParOO, uApp, uExt, uPop, uAug, uNeg, uTIx, wCat, frs0, List.map_cons, List.map_nil, List.getElem?_cons_zero, List.getElem?_cons_succ, List.set_cons_zero, List.set_cons_succ, List.length_cons, List.length_nil, List.nil_append, List.cons_append, Nat.reduceAdd, Nat.reduceSub, List.replicate_zero, List.replicate_succ, isNonD, isFlat, xor_f, xor_t, Bool.true_or, Bool.false_or, Bool.and_true, Bool.true_and, Bool.or_true, Bool.or_false, true_and, and_true, forall_const, true_implies, false_implies, implies_true, Bool.false_eq_true, reduceCtorEq, Option.some.injEq, exists_eq_left, exists_eq_left', kit_tab, exists_and_left, Option.isSome_some, Option.isSome_none, con1, con2, con3, con4, con1E, con2E, con3E, endE, CisI, CisW, CisR, CisP, CisS, atI0, atI1, uSortL, uSortSet, uLenSet, atI2, atI3, uiRow, uiVar, uiRng1, uiRng2, uLc, noOi_fr, noOi_un, noOi_ow, uIxO, List.all_cons, List.all_nil, wipeD, uExpr, uAttr, putD, uMake, uiEnum, initE, iNx, Sl.oi.injEq, and_imp, forall_eq', forall_apply_eq_imp_iff, uM0, uM1, uM2, uMp1, uMp2, eqv_lnil, shp_lnil, shp_ints, retM, uSl, uoN, uoS, wRep, wLtP, uJoin, wRepr, uKwC, wStrO, isSeqD, rowD_P, rowD_S, rowD_Sq, rowD_Sh, tup_P, tup_S, tup_S', lit_sz, shpP60, shpS60, shpsP59, shpsS59, any_P, any_S, any_I, all_P, all_S, tupK_P, tupK_S, alike_two, alike_P, alike_S, optD, shp_int, shp_non, shp_bl, eqv_int, eqv_bl, decide_eq_true_eq, decide_eq_false_iff_not, Bool.not_eq_true', Bool.not_eq_false', Bool.not_true, Bool.not_false, Bool.true_eq_false, Bool.false_eq_true, Bool.and_self]
  refine forG_i (fun i t' δ => t' = t ∧ ∃ x2 x3, δ = [.fr (.lst (sq.map encP)), .ow (((sq.take i).flatMap (sidesAt sq)).map encS), x2, x3] ∧ noOi (some x3) = true) ⟨rfl, _, _, rfl, rfl⟩ ?_ ?_
  · rintro i d t' δ ei ⟨rfl, x2, x3, rfl, no3⟩ N hN
    rw [List.getElem?_map] at ei
    cases ep : sq[i]? with
    | none => rw [ep] at ei; cases ei
    | some p =>
      rw [ep] at ei
      cases ei
      have li := (List.getElem?_eq_some_iff.mp ep).1
      simp only [uSeq, later_cons, uNext, uRet, uRetN, uIf, uSet, uSetO, uAsg, uFrz, uFrz1, frzAll, frz1, retE, uVar, uK, u2, wI, cYes, wEq, wIsN, wIx, wMem, uAnd, uOr, uNot, uB, uTAnd, uTOr, uTNot, uRowT, uIte, uChain, uNil, uCons, uLst, uTup, uFld, uSelf, uC, wLen, wTupOf, wI1, wI2, wInt, wBls, wInts, wIsi1, wIsiC, uIsRow, uCall, uCallN, uT, uTs, rowD_lst, rowD_tup, rowD_int, isBk, uRaise, uPar, uParOO, uApp, uExt, uPop, uAug, uNeg, uTIx, wCat, frs0, List.map_cons, List.map_nil, List.getElem?_cons_zero, List.getElem?_cons_succ, List.set_cons_zero, List.set_cons_succ, List.length_cons, List.length_nil, List.nil_append, List.cons_append, Nat.reduceAdd, Nat.reduceSub, List.replicate_zero, List.replicate_succ, isNonD, isFlat, xor_f, xor_t, Bool.true_or, Bool.false_or, Bool.and_true, Bool.true_and, Bool.or_true, Bool.or_false, true_and, and_true, forall_const, true_implies, false_implies, implies_true, Bool.false_eq_true, reduceCtorEq, Option.some.injEq, exists_eq_left, exists_eq_left', kit_tab, exists_and_left, Option.isSome_some, Option.isSome_none, con1, con2, con3, con4, con1E, con2E, con3E, endE, CisI, CisW, CisR, CisP, CisS, atI0, atI1, uSortL, uSortSet, uLenSet, atI2, atI3, uiRow, uiVar, uiRng1, uiRng2, uLc, noOi_fr, noOi_un, noOi_ow, uIxO, List.all_cons, List.all_nil, wipeD, uExpr, uAttr, putD, uMake, uiEnum, initE, iNx, Sl.oi.injEq, and_imp, forall_eq', forall_apply_eq_imp_iff, uM0, uM1, uM2, uMp1, uMp2, eqv_lnil, shp_lnil, shp_ints, retM, uSl, uoN, uoS, wRep, wLtP, uJoin, wRepr, uKwC, wStrO, isSeqD, rowD_P, rowD_S, rowD_Sq, rowD_Sh, tup_P, tup_S, tup_S', lit_sz, shpP60, shpS60, shpsP59, shpsS59, any_P, any_S, any_I, all_P, all_S, tupK_P, tupK_S, alike_two, alike_P, alike_S, optD, shp_int, shp_non, shp_bl, eqv_int, eqv_bl, decide_eq_true_eq, decide_eq_false_iff_not, Bool.not_eq_true', Bool.not_eq_false', Bool.not_true, Bool.not_false, Bool.true_eq_false, Bool.false_eq_true, Bool.and_self, no3]
      refine ⟨p, rfl, ?_⟩
      simp only [uSeq, later_cons, uNext, uRet, uRetN, uIf, uSet, uSetO, uAsg, uFrz, uFrz1, frzAll, frz1, retE, uVar, uK, u2, wI, cYes, wEq, wIsN, wIx, wMem, uAnd, uOr, uNot, uB, uTAnd, uTOr, uTNot, uRowT, uIte, uChain, uNil, uCons, uLst, uTup, uFld, uSelf, uC, wLen, wTupOf, wI1, wI2, wInt, wBls, wInts, wIsi1, wIsiC, uIsRow, uCall, uCallN, uT, uTs, rowD_lst, rowD_tup, rowD_int, isBk, uRaise, uPar, uParOO, uApp, uExt, uPop, uAug, uNeg, uTIx, wCat, frs0, List.map_cons, List.map_nil, List.getElem?_cons_zero, List.getElem?_cons_succ, List.set_cons_zero, List.set_cons_succ, List.length_cons, List.length_nil, List.nil_append, List.cons_append, Nat.reduceAdd, Nat.reduceSub, List.replicate_zero, List.replicate_succ, isNonD, isFlat, xor_f, xor_t, Bool.true_or, Bool.false_or, Bool.and_true, Bool.true_and, Bool.or_true, Bool.or_false, true_and, and_true, forall_const, true_implies, false_implies, implies_true, Bool.false_eq_true, reduceCtorEq, Option.some.injEq, exists_eq_left, exists_eq_left', kit_tab, exists_and_left, Option.isSome_some, Option.isSome_none, con1, con2, con3, con4, con1E, con2E, con3E, endE, CisI, CisW, CisR, CisP, CisS, atI0, atI1, uSortL, uSortSet, uLenSet, atI2, atI3, uiRow, uiVar, uiRng1, uiRng2, uLc, noOi_fr, noOi_un, noOi_ow, uIxO, List.all_cons, List.all_nil, wipeD, uExpr, uAttr, putD, uMake, uiEnum, initE, iNx, Sl.oi.injEq, and_imp, forall_eq', forall_apply_eq_imp_iff, uM0, uM1, uM2, uMp1, uMp2, eqv_lnil, shp_lnil, shp_ints, retM, uSl, uoN, uoS, wRep, wLtP, uJoin, wRepr, uKwC, wStrO, isSeqD, rowD_P, rowD_S, rowD_Sq, rowD_Sh, tup_P, tup_S, tup_S', lit_sz, shpP60, shpS60, shpsP59, shpsS59, any_P, any_S, any_I, all_P, all_S, tupK_P, tupK_S, alike_two, alike_P, alike_S, optD, shp_int, shp_non, shp_bl, eqv_int, eqv_bl, decide_eq_true_eq, decide_eq_false_iff_not, Bool.not_eq_true', Bool.not_eq_false', Bool.not_true, Bool.not_false, Bool.true_eq_false, Bool.false_eq_true, Bool.and_self, no3, show (2 : Int) = ((2 : Nat) : Int) from rfl, cutD_front, take_enc]
      have rl := raw_len (sq.take i) sq
      have tl : (sq.take i).length ≤ sq.length := by rw [List.length_take]; omega
      refine ⟨by rw [List.length_map, List.length_take, sizeLine_eq]; omega, lcG_fm (fun q => if q ∈ sq then some (encS (p, q)) else none) (fun y hy Kk Nn hq => ?_) ?_⟩
      · simp only [uSeq, later_cons, uNext, uRet, uRetN, uIf, uSet, uSetO, uAsg, uFrz, uFrz1, frzAll, frz1, retE, uVar, uK, u2, wI, cYes, wEq, wIsN, wIx, wMem, uAnd, uOr, uNot, uB, uTAnd, uTOr, uTNot, uRowT, uIte, uChain, uNil, uCons, uLst, uTup, uFld, uSelf, uC, wLen, wTupOf, wI1, wI2, wInt, wBls, wInts, wIsi1, wIsiC, uIsRow, uCall, uCallN, uT, uTs, rowD_lst, rowD_tup, rowD_int, isBk, uRaise, uPar, uParOO, uApp, uExt, uPop, uAug, uNeg, uTIx, wCat, frs0, List.map_cons, List.map_nil, List.getElem?_cons_zero, List.getElem?_cons_succ, List.set_cons_zero, List.set_cons_succ, List.length_cons, List.length_nil, List.nil_append, List.cons_append, Nat.reduceAdd, Nat.reduceSub, List.replicate_zero, List.replicate_succ, isNonD, isFlat, xor_f, xor_t, Bool.true_or, Bool.false_or, Bool.and_true, Bool.true_and, Bool.or_true, Bool.or_false, true_and, and_true, forall_const, true_implies, false_implies, implies_true, Bool.false_eq_true, reduceCtorEq, Option.some.injEq, exists_eq_left, exists_eq_left', kit_tab, exists_and_left, Option.isSome_some, Option.isSome_none, con1, con2, con3, con4, con1E, con2E, con3E, endE, CisI, CisW, CisR, CisP, CisS, atI0, atI1, uSortL, uSortSet, uLenSet, atI2, atI3, uiRow, uiVar, uiRng1, uiRng2, uLc, noOi_fr, noOi_un, noOi_ow, uIxO, List.all_cons, List.all_nil, wipeD, uExpr, uAttr, putD, uMake, uiEnum, initE, iNx, Sl.oi.injEq, and_imp, forall_eq', forall_apply_eq_imp_iff, uM0, uM1, uM2, uMp1, uMp2, eqv_lnil, shp_lnil, shp_ints, retM, uSl, uoN, uoS, wRep, wLtP, uJoin, wRepr, uKwC, wStrO, isSeqD, rowD_P, rowD_S, rowD_Sq, rowD_Sh, tup_P, tup_S, tup_S', lit_sz, shpP60, shpS60, shpsP59, shpsS59, any_P, any_S, any_I, all_P, all_S, tupK_P, tupK_S, alike_two, alike_P, alike_S, optD, shp_int, shp_non, shp_bl, eqv_int, eqv_bl, decide_eq_true_eq, decide_eq_false_iff_not, Bool.not_eq_true', Bool.not_eq_false', Bool.not_true, Bool.not_false, Bool.true_eq_false, Bool.false_eq_true, Bool.and_self]
        exact ⟨fun z => by rw [if_pos z] at hq; exact hq, fun z => by rw [if_neg z] at hq; exact hq⟩
      · rw [List.nil_append, sidesAt_fm, ← List.map_append, ← raw_succ ep]
        have sl := sidesAt_len sq p
        exact ⟨by rw [List.length_map, List.length_map, sizeLine_eq]; omega, hN _ _ ⟨rfl, _, _, rfl, no3⟩⟩
  · rintro t' δ ⟨rfl, x2, x3, rfl, no3⟩
    rw [List.length_map, List.take_length]
    simp only [uSeq, later_cons, uNext, uRet, uRetN, uIf, uSet, uSetO, uAsg, uFrz, uFrz1, frzAll, frz1, retE, uVar, uK, u2, wI, cYes, wEq, wIsN, wIx, wMem, uAnd, uOr, uNot, uB, uTAnd, uTOr, uTNot, uRowT, uIte, uChain, uNil, uCons, uLst, uTup, uFld, uSelf, uC, wLen, wTupOf, wI1, wI2, wInt, wBls, wInts, wIsi1, wIsiC, uIsRow, uCall, uCallN, uT, uTs, rowD_lst, rowD_tup, rowD_int, isBk, uRaise, uPar, uParOO, uApp, uExt, uPop, uAug, uNeg, uTIx, wCat, frs0, List.map_cons, List.map_nil, List.getElem?_cons_zero, List.getElem?_cons_succ, List.set_cons_zero, List.set_cons_succ, List.length_cons, List.length_nil, List.nil_append, List.cons_append, Nat.reduceAdd, Nat.reduceSub, List.replicate_zero, List.replicate_succ, isNonD, isFlat, xor_f, xor_t, Bool.true_or, Bool.false_or, Bool.and_true, Bool.true_and, Bool.or_true, Bool.or_false, true_and, and_true, forall_const, true_implies, false_implies, implies_true, Bool.false_eq_true, reduceCtorEq, Option.some.injEq, exists_eq_left, exists_eq_left', kit_tab, exists_and_left, Option.isSome_some, Option.isSome_none, con1, con2, con3, con4, con1E, con2E, con3E, endE, CisI, CisW, CisR, CisP, CisS, atI0, atI1, uSortL, uSortSet, uLenSet, atI2, atI3, uiRow, uiVar, uiRng1, uiRng2, uLc, noOi_fr, noOi_un, noOi_ow, uIxO, List.all_cons, List.all_nil, wipeD, uExpr, uAttr, putD, uMake, uiEnum, initE, iNx, Sl.oi.injEq, and_imp, forall_eq', forall_apply_eq_imp_iff, uM0, uM1, uM2, uMp1, uMp2, eqv_lnil, shp_lnil, shp_ints, retM, uSl, uoN, uoS, wRep, wLtP, uJoin, wRepr, uKwC, wStrO, isSeqD, rowD_P, rowD_S, rowD_Sq, rowD_Sh, tup_P, tup_S, tup_S', lit_sz, shpP60, shpS60, shpsP59, shpsS59, any_P, any_S, any_I, all_P, all_S, tupK_P, tupK_S, alike_two, alike_P, alike_S, optD, shp_int, shp_non, shp_bl, eqv_int, eqv_bl, decide_eq_true_eq, decide_eq_false_iff_not, Bool.not_eq_true', Bool.not_eq_false', Bool.not_true, Bool.not_false, Bool.true_eq_false, Bool.false_eq_true, Bool.and_self]
    have rl := raw_len sq sq
    refine ⟨by rw [List.length_map, sizeLine_eq]; omega, fun M pm sr => ?_⟩
    rw [sorted_list ordS (fun _ _ => encS_inj) srtD_S pm sr]
    exact q
abbrev s__law_ends : Stmt := topS 45
theorem sc__law_ends : FnScope ["one", "other", "i", "j", "k", "m", "across", "up"] ["one", "other"] (defScope s__law_ends) := ⟨rfl, rfl, rfl, by decide +kernel, rfl, by decide +kernel, by decide +kernel⟩
theorem ok__law_ends {f : Addr} {fd : FuncData} (F : Fun K "_law_ends" "_law_ends" s__law_ends f fd) (T : Txt2 K mg tk aST aEN CR CB CF fB fF dB dF) : FnOk P w K mg base (L2.CX P w) 1 f fd ["one", "other"] (spV K C_le) := by
  refine con_ok F sc__law_ends (fun m t ds Pq pe h => by obtain ⟨_, _, rfl, _⟩ := h; rfl) (fun c pe cdv A outer s H E hK tk hx hr => ⟨_, (vs_cons (vs_asg (T := (.tp [(.tp [(.nm 2), (.nm 3)]), (.tp [(.nm 4), (.nm 5)])])) hK (v_tup (va_cons (v_var (pv 0)) (va_cons (v_var (pv 1)) va_nil))) (pg_sq (by rfl) (pgs_cons (pg_sq (by rfl) (pgs_cons (pg_name (i := 2) sc__law_ends.nd rfl (by first | exact Or.inl rfl | exact Or.inr rfl)) (pgs_cons (pg_name (i := 3) sc__law_ends.nd rfl (by first | exact Or.inl rfl | exact Or.inr rfl)) pgs_nil))) (pgs_cons (pg_sq (by rfl) (pgs_cons (pg_name (i := 4) sc__law_ends.nd rfl (by first | exact Or.inl rfl | exact Or.inr rfl)) (pgs_cons (pg_name (i := 5) sc__law_ends.nd rfl (by first | exact Or.inl rfl | exact Or.inr rfl)) pgs_nil))) pgs_nil))))
(vs_cons (vs_par (i := 6) (j := 7) (by rfl) sc__law_ends.nd rfl rfl (by decide) rfl rfl (v_callB (call_max2 rfl) c_max2 (by rfl) T.n_max (by decide +kernel) (va_cons (v_var (pv 2)) (va_cons (v_var (pv 4)) va_nil))) (v_callB (call_max2 rfl) c_max2 (by rfl) T.n_max (by decide +kernel) (va_cons (v_var (pv 3)) (va_cons (v_var (pv 5)) va_nil))) (by rfl))
(vs_one (vs_ret (v_ifExp (vt_cmp (o_ne hK hr.units) w_ne (v_var (pv 2)) (v_var (pv 4)) (nomark _)) (v_tup (va_cons (v_tup (va_cons (v_var (pv 6)) (va_cons (v_var (pv 7)) va_nil))) (va_cons (v_tup (va_cons (v_var (pv 6)) (va_cons (v_op op_add w_add (v_var (pv 7)) (v_int pe_int)) va_nil))) va_nil))) (v_tup (va_cons (v_tup (va_cons (v_var (pv 6)) (va_cons (v_var (pv 7)) va_nil))) (va_cons (v_tup (va_cons (v_op op_add w_add (v_var (pv 6)) (v_int pe_int)) (va_cons (v_var (pv 7)) va_nil))) va_nil)))))))), fun t ds Pq h => ?_⟩)
  obtain ⟨p, r, rfl, q⟩ := h
  simp only [uSeq, later_cons, uNext, uRet, uRetN, uIf, uSet, uSetO, uAsg, uFrz, uFrz1, frzAll, frz1, retE, uVar, uK, u2, wI, cYes, wEq, wIsN, wIx, wMem, uAnd, uOr, uNot, uB, uTAnd, uTOr, uTNot, uRowT, uIte, uChain, uNil, uCons, uLst, uTup, uFld, uSelf, uC, wLen, wTupOf, wI1, wI2, wInt, wBls, wInts, wIsi1, wIsiC, uIsRow, uCall, uCallN, uT, uTs, rowD_lst, rowD_tup, rowD_int, isBk, uRaise, uPar, uParOO, uApp, uExt, uPop, uAug, uNeg, uTIx, wCat, frs0, List.map_cons, List.map_nil, List.getElem?_cons_zero, List.getElem?_cons_succ, List.set_cons_zero, List.set_cons_succ, List.length_cons, List.length_nil, List.nil_append, List.cons_append, Nat.reduceAdd, Nat.reduceSub, List.replicate_zero, List.replicate_succ, isNonD, isFlat, xor_f, xor_t, Bool.true_or, Bool.false_or, Bool.and_true, Bool.true_and, Bool.or_true, Bool.or_false, true_and, and_true, forall_const, true_implies, false_implies, implies_true, Bool.false_eq_true, reduceCtorEq, Option.some.injEq, exists_eq_left, exists_eq_left', kit_tab, exists_and_left, Option.isSome_some, Option.isSome_none, con1, con2, con3, con4, con1E, con2E, con3E, endE, CisI, CisW, CisR, CisP, CisS, atI0, atI1, uSortL, uSortSet, uLenSet, atI2, atI3, uiRow, uiVar, uiRng1, uiRng2, uLc, noOi_fr, noOi_un, noOi_ow, uIxO, List.all_cons, List.all_nil, wipeD, uExpr, uAttr, putD, uMake, uiEnum, initE, iNx, Sl.oi.injEq, and_imp, forall_eq', forall_apply_eq_imp_iff, uM0, uM1, uM2, uMp1, uMp2, eqv_lnil, shp_lnil, shp_ints, retM, uSl, uoN, uoS, wRep, wLtP, uJoin, wRepr, uKwC, wStrO, isSeqD, rowD_P, rowD_S, rowD_Sq, rowD_Sh, tup_P, tup_S, tup_S', lit_sz, shpP60, shpS60, shpsP59, shpsS59, any_P, any_S, any_I, all_P, all_S, tupK_P, tupK_S, alike_two, alike_P, alike_S, optD, shp_int, shp_non, shp_bl, eqv_int, eqv_bl, decide_eq_true_eq, decide_eq_false_iff_not, Bool.not_eq_true', Bool.not_eq_false', Bool.not_true, Bool.not_false, Bool.true_eq_false, Bool.false_eq_true, Bool.and_self]
  unfold lawEnds at q
  refine ⟨fun z => ?_, fun z => ?_⟩
  · rw [if_neg (by simpa using z)] at q
    exact q
  · rw [if_pos (by simpa using z)] at q
    exact q
end
end K06

set_option linter.all false
set_option maxRecDepth 100000
set_option maxHeartbeats 4000000
namespace K06
open PySem PySem.Spec PyProof.Rows L2 Nv VL
section
variable {P : Program} {w : World} {K : PySem.W.Frag} {mg : Str → Option Value} {base : Heap} {tk : Tok} {aST aEN CR CB CF fB fF : Addr} {dB dF : FuncData}
variable {fD fE fI fP fH fS : Addr} {dD dE dI dP dH dS : FuncData}
abbrev s__law_room : Stmt := topS 43
theorem sc__law_room : FnScope ["mason", "most", "found", "turn", "new", "squares", "shut", "sides", "side"] ["mason", "most"] (defScope s__law_room) := ⟨rfl, rfl, rfl, by decide +kernel, rfl, by decide +kernel, by decide +kernel⟩
theorem ok__law_room {f : Addr} {fd : FuncData} (D__law_trowel : Df K mg "_law_trowel" s__law_trowel ["mason", "many"] fD dD) (D__law_brick : Df K mg "_law_brick" s__law_brick ["mason", "some"] fP dP) (D__law_beside : Df K mg "_law_beside" s__law_beside ["square"] fE dE) (D__law_side : Df K mg "_law_side" s__law_side ["one", "other"] fI dI) (D__law_hangs : Df K mg "_law_hangs" s__law_hangs ["squares", "shut"] fH dH) (D__law_sides : Df K mg "_law_sides" s__law_sides ["squares"] fS dS)
    (F : Fun K "_law_room" "_law_room" s__law_room f fd) (T : Txt2 K mg tk aST aEN CR CB CF fB fF dB dF) : FnOk P w K mg base (L2.CX P w) 3 f fd ["mason", "most"] (spV K C_lr) := by
  have G__law_trowel := ok__law_trowel (P := P) (w := w) (base := base) D__law_trowel.F T
  have G__law_brick := ok__law_brick (P := P) (w := w) (base := base) D__law_trowel D__law_brick.F T
  have G__law_beside := ok__law_beside (P := P) (w := w) (base := base) D__law_beside.F T
  have G__law_hangs := ok__law_hangs (P := P) (w := w) (base := base) D__law_beside D__law_side D__law_hangs.F T
  have G__law_sides := ok__law_sides (P := P) (w := w) (base := base) D__law_beside D__law_sides.F T
  refine con_okD F sc__law_room (fun m t ds Pq pe h => by obtain ⟨_, _, _, _, _, rfl, _⟩ := h; rfl) (fun c pe cdv A outer s H E hh hK tk hx hr => ⟨_, (vs_cons (vs_set (i := 2) sc__law_room.nd rfl (by first | exact Or.inl rfl | exact Or.inr rfl) (ne_ve (vn_lst (va_cons (v_call hK G__law_brick (hr.mono (by decide)) (by rfl) D__law_brick.m D__law_brick.F.kp D__law_brick.b hx (va_cons (v_var (pv 0)) (va_cons (ne_ve (vn_lst (va_cons (v_tup (va_cons (v_int pe_int) (va_cons (v_int pe_int) va_nil))) (va_cons (v_tup (va_cons (v_int pe_int) (va_cons (v_int pe_int) va_nil))) (va_cons (v_tup (va_cons (v_neg (v_int pe_int)) (va_cons (v_int pe_int) va_nil))) (va_cons (v_tup (va_cons (v_int pe_int) (va_cons (v_neg (v_int pe_int)) va_nil))) va_nil)))))) va_nil))) va_nil))))
(vs_cons (vs_for (T := (.nm 3)) hK PassesOwn.leaving rfl (vi_rng1 (by rfl) T.n_range (va_cons (v_call hK G__law_trowel (hr.mono (by decide)) (by rfl) D__law_trowel.m D__law_trowel.F.kp D__law_trowel.b hx (va_cons (v_var (pv 0)) (va_cons (v_var (pv 1)) va_nil))) va_nil)) (pg_name (i := 3) sc__law_room.nd rfl (by first | exact Or.inl rfl | exact Or.inr rfl))
(vs_cons (vs_set (i := 4) sc__law_room.nd rfl (by first | exact Or.inl rfl | exact Or.inr rfl) (v_call hK G__law_brick (hr.mono (by decide)) (by rfl) D__law_brick.m D__law_brick.F.kp D__law_brick.b hx (va_cons (v_var (pv 0)) (va_cons (v_call hK G__law_beside (hr.mono (by decide)) (by rfl) D__law_beside.m D__law_beside.F.kp D__law_beside.b hx (va_cons (v_call hK G__law_brick (hr.mono (by decide)) (by rfl) D__law_brick.m D__law_brick.F.kp D__law_brick.b hx (va_cons (v_var (pv 0)) (va_cons (v_var (pv 2)) va_nil))) va_nil)) va_nil))))
(vs_one (vs_set (i := 2) sc__law_room.nd rfl (by first | exact Or.inl rfl | exact Or.inr rfl) (ne_ve (vn_cat (v_var (pv 2)) (ne_ve (vn_rep (ne_ve (vn_lst (va_cons (v_var (pv 4)) va_nil))) (v_callTy call_int1 c_int (by rfl) T.n_int (by decide +kernel) (va_cons (v_cmp (o_nin hK hr.units) w_in (v_var (pv 4)) (v_var (pv 2)) (by rfl)) va_nil))))))))))
(vs_cons (vs_asg (T := (.tp [(.nm 5), (.nm 6)])) hK (v_tup (va_cons (ne_ve (vn_sortL hr.units hK (by rfl) T.n_sorted (v_var (pv 2)))) (va_cons (ne_ve (vn_lst va_nil)) va_nil))) (pg_sq (by rfl) (pgs_cons (pg_name (i := 5) sc__law_room.nd rfl (by first | exact Or.inl rfl | exact Or.inr rfl)) (pgs_cons (pg_name (i := 6) sc__law_room.nd rfl (by first | exact Or.inl rfl | exact Or.inr rfl)) pgs_nil))))
(vs_cons (vs_for (T := (.nm 3)) hK PassesOwn.leaving rfl (vi_rng1 (by rfl) T.n_range (va_cons (v_call hK G__law_brick (hr.mono (by decide)) (by rfl) D__law_brick.m D__law_brick.F.kp D__law_brick.b hx (va_cons (v_var (pv 0)) (va_cons (ne_ve (vn_lst (va_cons (v_int pe_int) (va_cons (v_int pe_int) (va_cons (v_int pe_int) (va_cons (v_int pe_int) va_nil)))))) va_nil))) va_nil)) (pg_name (i := 3) sc__law_room.nd rfl (by first | exact Or.inl rfl | exact Or.inr rfl))
(vs_cons (vs_setLc (i := 7) hK (by rfl) sc__law_room.nd rfl rfl (sw_true rfl rfl rfl (by decide +kernel)) (T := (.nm 8)) (own := [(("side" : Str), 8)]) (by decide) (vi_row hK (v_call hK G__law_sides (hr.mono (by decide)) (by rfl) D__law_sides.m D__law_sides.F.kp D__law_sides.b hx (va_cons (v_var (pv 5)) va_nil))) (blkOk_by (N := ["mason", "most", "found", "turn", "new", "squares", "shut", "sides", "side"]) (sc := defScope s__law_room) (by decide +kernel)) (fun _ _ _ _ _ => (pg_name (i := 8) sc__law_room.nd rfl (by first | exact Or.inl rfl | exact Or.inr rfl))) (fun _ _ _ _ _ => (vts_one (PW.pt (vt_and (vt_cmp (o_nin hK hr.units) w_in (v_var (pv 8)) (v_var (pv 6)) (by rfl)) (vt_and1 (vt_val (v_call hK G__law_hangs (hr.mono (by decide)) (by rfl) D__law_hangs.m D__law_hangs.F.kp D__law_hangs.b (passF fun _ _ z => z) (va_cons (v_var (pv 5)) (va_cons (ne_ve (vn_cat (v_var (pv 6)) (ne_ve (vn_lst (va_cons (v_var (pv 8)) va_nil))))) va_nil))))))))) (fun _ _ _ _ _ => (v_var (pv 8))))
(vs_one (vs_set (i := 6) sc__law_room.nd rfl (by first | exact Or.inl rfl | exact Or.inr rfl) (ne_ve (vn_cat (v_var (pv 6)) (v_ifExp (vt_cmp (o_ne hK hr.units) w_ne (v_var (pv 7)) (ne_ve (vn_lst va_nil)) (nomark _)) (ne_ve (vn_lst (va_cons (v_call hK G__law_brick (hr.mono (by decide)) (by rfl) D__law_brick.m D__law_brick.F.kp D__law_brick.b hx (va_cons (v_var (pv 0)) (va_cons (v_var (pv 7)) va_nil))) va_nil))) (ne_ve (vn_lst va_nil)))))))))
(vs_one (vs_ret (v_tup (va_cons (v_var (pv 5)) (va_cons (ne_ve (vn_sortL hr.units hK (by rfl) T.n_sorted (v_var (pv 6)))) (va_cons (v_call hK G__law_brick (hr.mono (by decide)) (by rfl) D__law_brick.m D__law_brick.F.kp D__law_brick.b hx (va_cons (v_var (pv 0)) (va_cons (ne_ve (vn_lst (va_cons (v_int pe_int) (va_cons (v_int pe_int) (va_cons (v_int pe_int) (va_cons (v_int pe_int) (va_cons (v_int pe_int) va_nil))))))) va_nil))) va_nil)))))))))), fun t ds Pq h => ?_⟩)
  obtain ⟨L, l, cs, k, em, rfl, k1, k8, t8, q⟩ := h
  simp only [uSeq, later_cons, uNext, uRet, uRetN, uIf, uSet, uSetO, uAsg, uFrz, uFrz1, frzAll, frz1, retE, uVar, uK, u2, wI, cYes, wEq, wIsN, wIx, wMem, uAnd, uOr, uNot, uB, uTAnd, uTOr, uTNot, uRowT, uIte, uChain, uNil, uCons, uLst, uTup, uFld, uSelf, uC, wLen, wTupOf, wI1, wI2, wInt, wBls, wInts, wIsi1, wIsiC, uIsRow, uCall, uCallN, uT, uTs, rowD_lst, rowD_tup, rowD_int, isBk, uRaise, uPar, uParOO, uApp, uExt, uPop, uAug, uNeg, uTIx, wCat, frs0, List.map_cons, List.map_nil, List.getElem?_cons_zero, List.getElem?_cons_succ, List.set_cons_zero, List.set_cons_succ, List.length_cons, List.length_nil, List.nil_append, List.cons_append, Nat.reduceAdd, Nat.reduceSub, List.replicate_zero, List.replicate_succ, isNonD, isFlat, xor_f, xor_t, Bool.true_or, Bool.false_or, Bool.and_true, Bool.true_and, Bool.or_true, Bool.or_false, true_and, and_true, forall_const, true_implies, false_implies, implies_true, Bool.false_eq_true, reduceCtorEq, Option.some.injEq, exists_eq_left, exists_eq_left', kit_tab, exists_and_left, Option.isSome_some, Option.isSome_none, con1, con2, con3, con4, con1E, con2E, con3E, endE, CisI, CisW, CisR, CisP, CisS, atI0, atI1, uSortL, uSortSet, uLenSet, atI2, atI3, uiRow, uiVar, uiRng1, uiRng2, uLc, noOi_fr, noOi_un, noOi_ow, uIxO, List.all_cons, List.all_nil, wipeD, uExpr, uAttr, putD, uMake, uiEnum, initE, iNx, Sl.oi.injEq, and_imp, forall_eq', forall_apply_eq_imp_iff, uM0, uM1, uM2, uMp1, uMp2, eqv_lnil, shp_lnil, shp_ints, retM, uSl, uoN, uoS, wRep, wLtP, uJoin, wRepr, uKwC, wStrO, isSeqD, rowD_P, rowD_S, rowD_Sq, rowD_Sh, tup_P, tup_S, tup_S', lit_sz, shpP60, shpS60, shpsP59, shpsS59, any_P, any_S, any_I, all_P, all_S, tupK_P, tupK_S, alike_two, alike_P, alike_S, optD, shp_int, shp_non, shp_bl, eqv_int, eqv_bl, decide_eq_true_eq, decide_eq_false_iff_not, Bool.not_eq_true', Bool.not_eq_false', Bool.not_true, Bool.not_false, Bool.true_eq_false, Bool.false_eq_true, Bool.and_self, em]
  refine ⟨L, l, cs, _, rfl, rfl, by decide, by decide, by omega, fun d hd => ?_⟩
  have hp : ∃ p : Pt, d = encP p ∧ -41 ≤ p.1 ∧ p.1 ≤ 41 ∧ -41 ≤ p.2 ∧ p.2 ≤ 41 := by
    simp only [List.mem_cons, List.not_mem_nil, or_false] at hd
    rcases hd with rfl | rfl | rfl | rfl
    all_goals exact ⟨_, rfl, by decide, by decide, by decide, by decide⟩
  obtain ⟨p, rfl, b1, b2, b3, b4⟩ := hp
  simp only [uFor, uSeq, later_cons, uNext, uRet, uRetN, uIf, uSet, uSetO, uAsg, uFrz, uFrz1, frzAll, frz1, retE, uVar, uK, u2, wI, cYes, wEq, wIsN, wIx, wMem, uAnd, uOr, uNot, uB, uTAnd, uTOr, uTNot, uRowT, uIte, uChain, uNil, uCons, uLst, uTup, uFld, uSelf, uC, wLen, wTupOf, wI1, wI2, wInt, wBls, wInts, wIsi1, wIsiC, uIsRow, uCall, uCallN, uT, uTs, rowD_lst, rowD_tup, rowD_int, isBk, uRaise, uPar, uParOO, uApp, uExt, uPop, uAug, uNeg, uTIx, wCat, frs0, List.map_cons, List.map_nil, List.getElem?_cons_zero, List.getElem?_cons_succ, List.set_cons_zero, List.set_cons_succ, List.length_cons, List.length_nil, List.nil_append, List.cons_append, Nat.reduceAdd, Nat.reduceSub, List.replicate_zero, List.replicate_succ, isNonD, isFlat, xor_f, xor_t, Bool.true_or, Bool.false_or, Bool.and_true, Bool.true_and, Bool.or_true, Bool.or_false, true_and, and_true, forall_const, true_implies, false_implies, implies_true, Bool.false_eq_true, reduceCtorEq, Option.some.injEq, exists_eq_left, exists_eq_left', kit_tab, exists_and_left, Option.isSome_some, Option.isSome_none, con1, con2, con3, con4, con1E, con2E, con3E, endE, CisI, CisW, CisR, CisP, CisS, atI0, atI1, uSortL, uSortSet, uLenSet, atI2, atI3, uiRow, uiVar, uiRng1, uiRng2, uLc, noOi_fr, noOi_un, noOi_ow, uIxO, List.all_cons, List.all_nil, wipeD, uExpr, uAttr, putD, uMake, uiEnum, initE, iNx, Sl.oi.injEq, and_imp, forall_eq', forall_apply_eq_imp_iff, uM0, uM1, uM2, uMp1, uMp2, eqv_lnil, shp_lnil, shp_ints, retM, uSl, uoN, uoS, wRep, wLtP, uJoin, wRepr, uKwC, wStrO, isSeqD, rowD_P, rowD_S, rowD_Sq, rowD_Sh, tup_P, tup_S, tup_S', lit_sz, shpP60, shpS60, shpsP59, shpsS59, any_P, any_S, any_I, all_P, all_S, tupK_P, tupK_S, alike_two, alike_P, alike_S, optD, shp_int, shp_non, shp_bl, eqv_int, eqv_bl, decide_eq_true_eq, decide_eq_false_iff_not, Bool.not_eq_true', Bool.not_eq_false', Bool.not_true, Bool.not_false, Bool.true_eq_false, Bool.false_eq_true, Bool.and_self, em]
  refine ⟨L, l, cs, _, rfl, rfl, by omega, by omega, by omega, fun v v0 v1 => ?_⟩
  simp only [uSeq, later_cons, uNext, uRet, uRetN, uIf, uSet, uSetO, uAsg, uFrz, uFrz1, frzAll, frz1, retE, uVar, uK, u2, wI, cYes, wEq, wIsN, wIx, wMem, uAnd, uOr, uNot, uB, uTAnd, uTOr, uTNot, uRowT, uIte, uChain, uNil, uCons, uLst, uTup, uFld, uSelf, uC, wLen, wTupOf, wI1, wI2, wInt, wBls, wInts, wIsi1, wIsiC, uIsRow, uCall, uCallN, uT, uTs, rowD_lst, rowD_tup, rowD_int, isBk, uRaise, uPar, uParOO, uApp, uExt, uPop, uAug, uNeg, uTIx, wCat, frs0, List.map_cons, List.map_nil, List.getElem?_cons_zero, List.getElem?_cons_succ, List.set_cons_zero, List.set_cons_succ, List.length_cons, List.length_nil, List.nil_append, List.cons_append, Nat.reduceAdd, Nat.reduceSub, List.replicate_zero, List.replicate_succ, isNonD, isFlat, xor_f, xor_t, Bool.true_or, Bool.false_or, Bool.and_true, Bool.true_and, Bool.or_true, Bool.or_false, true_and, and_true, forall_const, true_implies, false_implies, implies_true, Bool.false_eq_true, reduceCtorEq, Option.some.injEq, exists_eq_left, exists_eq_left', kit_tab, exists_and_left, Option.isSome_some, Option.isSome_none, con1, con2, con3, con4, con1E, con2E, con3E, endE, CisI, CisW, CisR, CisP, CisS, atI0, atI1, uSortL, uSortSet, uLenSet, atI2, atI3, uiRow, uiVar, uiRng1, uiRng2, uLc, noOi_fr, noOi_un, noOi_ow, uIxO, List.all_cons, List.all_nil, wipeD, uExpr, uAttr, putD, uMake, uiEnum, initE, iNx, Sl.oi.injEq, and_imp, forall_eq', forall_apply_eq_imp_iff, uM0, uM1, uM2, uMp1, uMp2, eqv_lnil, shp_lnil, shp_ints, retM, uSl, uoN, uoS, wRep, wLtP, uJoin, wRepr, uKwC, wStrO, isSeqD, rowD_P, rowD_S, rowD_Sq, rowD_Sh, tup_P, tup_S, tup_S', lit_sz, shpP60, shpS60, shpsP59, shpsS59, any_P, any_S, any_I, all_P, all_S, tupK_P, tupK_S, alike_two, alike_P, alike_S, optD, shp_int, shp_non, shp_bl, eqv_int, eqv_bl, decide_eq_true_eq, decide_eq_false_iff_not, Bool.not_eq_true', Bool.not_eq_false', Bool.not_true, Bool.not_false, Bool.true_eq_false, Bool.false_eq_true, Bool.and_self, em]
  refine ⟨by omega, by omega, ?_⟩
  obtain ⟨n, rfl⟩ : ∃ n : Nat, v = (n : Int) := ⟨v.toNat, by omega⟩
  have hn : n < 8 := by omega
  rw [Int.toNat_natCast]
  refine forG_i (fun i t' δ => t' = t + 1 + 1 + 2 * i ∧ i ≤ n ∧ ∃ found x3 x4, δ = [.fr (.adr L), .fr (.int k), .fr (.lst (found.map encP)), x3, x4, .un, .un, .un, .un] ∧ Blt found i) ⟨rfl, Nat.zero_le _, [p], _, _, rfl, Blt.one ⟨b1, b2, b3, b4⟩⟩ ?_ ?_
  · rintro i d t' δ ei ⟨rfl, hin, found, x3, x4, rfl, bl⟩ N hN
    have ln := bl.ln
    have l1 := bl.l1
    have li : i < n := by
      have := (List.getElem?_eq_some_iff.mp ei).1
      rwa [rangeD, List.length_map, List.length_range] at this
    simp only [uSeq, later_cons, uNext, uRet, uRetN, uIf, uSet, uSetO, uAsg, uFrz, uFrz1, frzAll, frz1, retE, uVar, uK, u2, wI, cYes, wEq, wIsN, wIx, wMem, uAnd, uOr, uNot, uB, uTAnd, uTOr, uTNot, uRowT, uIte, uChain, uNil, uCons, uLst, uTup, uFld, uSelf, uC, wLen, wTupOf, wI1, wI2, wInt, wBls, wInts, wIsi1, wIsiC, uIsRow, uCall, uCallN, uT, uTs, rowD_lst, rowD_tup, rowD_int, isBk, uRaise, uPar, uParOO, uApp, uExt, uPop, uAug, uNeg, uTIx, wCat, frs0, List.map_cons, List.map_nil, List.getElem?_cons_zero, List.getElem?_cons_succ, List.set_cons_zero, List.set_cons_succ, List.length_cons, List.length_nil, List.nil_append, List.cons_append, Nat.reduceAdd, Nat.reduceSub, List.replicate_zero, List.replicate_succ, isNonD, isFlat, xor_f, xor_t, Bool.true_or, Bool.false_or, Bool.and_true, Bool.true_and, Bool.or_true, Bool.or_false, true_and, and_true, forall_const, true_implies, false_implies, implies_true, Bool.false_eq_true, reduceCtorEq, Option.some.injEq, exists_eq_left, exists_eq_left', kit_tab, exists_and_left, Option.isSome_some, Option.isSome_none, con1, con2, con3, con4, con1E, con2E, con3E, endE, CisI, CisW, CisR, CisP, CisS, atI0, atI1, uSortL, uSortSet, uLenSet, atI2, atI3, uiRow, uiVar, uiRng1, uiRng2, uLc, noOi_fr, noOi_un, noOi_ow, uIxO, List.all_cons, List.all_nil, wipeD, uExpr, uAttr, putD, uMake, uiEnum, initE, iNx, Sl.oi.injEq, and_imp, forall_eq', forall_apply_eq_imp_iff, uM0, uM1, uM2, uMp1, uMp2, eqv_lnil, shp_lnil, shp_ints, retM, uSl, uoN, uoS, wRep, wLtP, uJoin, wRepr, uKwC, wStrO, isSeqD, rowD_P, rowD_S, rowD_Sq, rowD_Sh, tup_P, tup_S, tup_S', lit_sz, shpP60, shpS60, shpsP59, shpsS59, any_P, any_S, any_I, all_P, all_S, tupK_P, tupK_S, alike_two, alike_P, alike_S, optD, shp_int, shp_non, shp_bl, eqv_int, eqv_bl, decide_eq_true_eq, decide_eq_false_iff_not, Bool.not_eq_true', Bool.not_eq_false', Bool.not_true, Bool.not_false, Bool.true_eq_false, Bool.false_eq_true, Bool.and_self, em]
    refine ⟨L, l, cs, _, rfl, rfl, by rw [List.length_map]; omega, by rw [List.length_map]; omega, by omega, fun d2 hd2 => ?_⟩
    obtain ⟨one, ho, rfl⟩ := List.mem_map.mp hd2
    refine ⟨one, rfl, L, l, cs, _, rfl, rfl, by simp [besL], by simp [besL], by omega, fun d3 hd3 => ?_⟩
    obtain ⟨new, hb, rfl⟩ := List.mem_map.mp hd3
    have sf : D.shps 59 (found.map encP) = true := shps_P 58 found
    simp only [uSeq, later_cons, uNext, uRet, uRetN, uIf, uSet, uSetO, uAsg, uFrz, uFrz1, frzAll, frz1, retE, uVar, uK, u2, wI, cYes, wEq, wIsN, wIx, wMem, uAnd, uOr, uNot, uB, uTAnd, uTOr, uTNot, uRowT, uIte, uChain, uNil, uCons, uLst, uTup, uFld, uSelf, uC, wLen, wTupOf, wI1, wI2, wInt, wBls, wInts, wIsi1, wIsiC, uIsRow, uCall, uCallN, uT, uTs, rowD_lst, rowD_tup, rowD_int, isBk, uRaise, uPar, uParOO, uApp, uExt, uPop, uAug, uNeg, uTIx, wCat, frs0, List.map_cons, List.map_nil, List.getElem?_cons_zero, List.getElem?_cons_succ, List.set_cons_zero, List.set_cons_succ, List.length_cons, List.length_nil, List.nil_append, List.cons_append, Nat.reduceAdd, Nat.reduceSub, List.replicate_zero, List.replicate_succ, isNonD, isFlat, xor_f, xor_t, Bool.true_or, Bool.false_or, Bool.and_true, Bool.true_and, Bool.or_true, Bool.or_false, true_and, and_true, forall_const, true_implies, false_implies, implies_true, Bool.false_eq_true, reduceCtorEq, Option.some.injEq, exists_eq_left, exists_eq_left', kit_tab, exists_and_left, Option.isSome_some, Option.isSome_none, con1, con2, con3, con4, con1E, con2E, con3E, endE, CisI, CisW, CisR, CisP, CisS, atI0, atI1, uSortL, uSortSet, uLenSet, atI2, atI3, uiRow, uiVar, uiRng1, uiRng2, uLc, noOi_fr, noOi_un, noOi_ow, uIxO, List.all_cons, List.all_nil, wipeD, uExpr, uAttr, putD, uMake, uiEnum, initE, iNx, Sl.oi.injEq, and_imp, forall_eq', forall_apply_eq_imp_iff, uM0, uM1, uM2, uMp1, uMp2, eqv_lnil, shp_lnil, shp_ints, retM, uSl, uoN, uoS, wRep, wLtP, uJoin, wRepr, uKwC, wStrO, isSeqD, rowD_P, rowD_S, rowD_Sq, rowD_Sh, tup_P, tup_S, tup_S', lit_sz, shpP60, shpS60, shpsP59, shpsS59, any_P, any_S, any_I, all_P, all_S, tupK_P, tupK_S, alike_two, alike_P, alike_S, optD, shp_int, shp_non, shp_bl, eqv_int, eqv_bl, decide_eq_true_eq, decide_eq_false_iff_not, Bool.not_eq_true', Bool.not_eq_false', Bool.not_true, Bool.not_false, Bool.true_eq_false, Bool.false_eq_true, Bool.and_self, em, sf]
    by_cases hn2 : new ∈ found
    · have e1 : (if ¬ new ∈ found then (1 : Int) else 0) = 0 := if_neg (fun z => z hn2)
      rw [e1]
      refine ⟨by decide, by decide, by decide, by rw [List.length_map, sizeLine_eq]; simp only [Int.toNat_zero, List.replicate_zero, List.flatten_nil, List.length_nil]; omega, ?_⟩
      simp only [Int.toNat_zero, List.replicate_zero, List.flatten_nil, List.append_nil]
      exact hN _ _ ⟨by omega, by omega, found, _, _, rfl, bl.more⟩
    · have e1 : (if ¬ new ∈ found then (1 : Int) else 0) = 1 := if_pos hn2
      rw [e1]
      have e2 : (List.replicate (Int.toNat 1) [encP new]).flatten = [encP new] := rfl
      rw [e2]
      refine ⟨by decide, by decide, by decide, by rw [List.length_map, sizeLine_eq]; simp only [List.length_cons, List.length_nil]; omega, ?_⟩
      have e3 : found.map encP ++ [encP new] = (found ++ [new]).map encP := by rw [List.map_append]; rfl
      rw [e3]
      exact hN _ _ ⟨by omega, by omega, _, _, _, rfl, bl.add ho hb hn2⟩
  · rintro t' δ ⟨rfl, hin, found, x3, x4, rfl, bl⟩
    simp only [uSeq, later_cons, uNext, uRet, uRetN, uIf, uSet, uSetO, uAsg, uFrz, uFrz1, frzAll, frz1, retE, uVar, uK, u2, wI, cYes, wEq, wIsN, wIx, wMem, uAnd, uOr, uNot, uB, uTAnd, uTOr, uTNot, uRowT, uIte, uChain, uNil, uCons, uLst, uTup, uFld, uSelf, uC, wLen, wTupOf, wI1, wI2, wInt, wBls, wInts, wIsi1, wIsiC, uIsRow, uCall, uCallN, uT, uTs, rowD_lst, rowD_tup, rowD_int, isBk, uRaise, uPar, uParOO, uApp, uExt, uPop, uAug, uNeg, uTIx, wCat, frs0, List.map_cons, List.map_nil, List.getElem?_cons_zero, List.getElem?_cons_succ, List.set_cons_zero, List.set_cons_succ, List.length_cons, List.length_nil, List.nil_append, List.cons_append, Nat.reduceAdd, Nat.reduceSub, List.replicate_zero, List.replicate_succ, isNonD, isFlat, xor_f, xor_t, Bool.true_or, Bool.false_or, Bool.and_true, Bool.true_and, Bool.or_true, Bool.or_false, true_and, and_true, forall_const, true_implies, false_implies, implies_true, Bool.false_eq_true, reduceCtorEq, Option.some.injEq, exists_eq_left, exists_eq_left', kit_tab, exists_and_left, Option.isSome_some, Option.isSome_none, con1, con2, con3, con4, con1E, con2E, con3E, endE, CisI, CisW, CisR, CisP, CisS, atI0, atI1, uSortL, uSortSet, uLenSet, atI2, atI3, uiRow, uiVar, uiRng1, uiRng2, uLc, noOi_fr, noOi_un, noOi_ow, uIxO, List.all_cons, List.all_nil, wipeD, uExpr, uAttr, putD, uMake, uiEnum, initE, iNx, Sl.oi.injEq, and_imp, forall_eq', forall_apply_eq_imp_iff, uM0, uM1, uM2, uMp1, uMp2, eqv_lnil, shp_lnil, shp_ints, retM, uSl, uoN, uoS, wRep, wLtP, uJoin, wRepr, uKwC, wStrO, isSeqD, rowD_P, rowD_S, rowD_Sq, rowD_Sh, tup_P, tup_S, tup_S', lit_sz, shpP60, shpS60, shpsP59, shpsS59, any_P, any_S, any_I, all_P, all_S, tupK_P, tupK_S, alike_two, alike_P, alike_S, optD, shp_int, shp_non, shp_bl, eqv_int, eqv_bl, decide_eq_true_eq, decide_eq_false_iff_not, Bool.not_eq_true', Bool.not_eq_false', Bool.not_true, Bool.not_false, Bool.true_eq_false, Bool.false_eq_true, Bool.and_self, em]
    have ln := bl.ln
    refine ⟨by rw [List.length_map, sizeLine_eq]; omega, fun M pm sr => ?_⟩
    have eM := sorted_list ordP (fun _ _ => encP_inj) srtD_P pm sr
    subst eM
    have rl : (rangeD 0 n).length = n := by rw [rangeD, List.length_map, List.length_range]
    simp only [uFor, uSeq, later_cons, uNext, uRet, uRetN, uIf, uSet, uSetO, uAsg, uFrz, uFrz1, frzAll, frz1, retE, uVar, uK, u2, wI, cYes, wEq, wIsN, wIx, wMem, uAnd, uOr, uNot, uB, uTAnd, uTOr, uTNot, uRowT, uIte, uChain, uNil, uCons, uLst, uTup, uFld, uSelf, uC, wLen, wTupOf, wI1, wI2, wInt, wBls, wInts, wIsi1, wIsiC, uIsRow, uCall, uCallN, uT, uTs, rowD_lst, rowD_tup, rowD_int, isBk, uRaise, uPar, uParOO, uApp, uExt, uPop, uAug, uNeg, uTIx, wCat, frs0, List.map_cons, List.map_nil, List.getElem?_cons_zero, List.getElem?_cons_succ, List.set_cons_zero, List.set_cons_succ, List.length_cons, List.length_nil, List.nil_append, List.cons_append, Nat.reduceAdd, Nat.reduceSub, List.replicate_zero, List.replicate_succ, isNonD, isFlat, xor_f, xor_t, Bool.true_or, Bool.false_or, Bool.and_true, Bool.true_and, Bool.or_true, Bool.or_false, true_and, and_true, forall_const, true_implies, false_implies, implies_true, Bool.false_eq_true, reduceCtorEq, Option.some.injEq, exists_eq_left, exists_eq_left', kit_tab, exists_and_left, Option.isSome_some, Option.isSome_none, con1, con2, con3, con4, con1E, con2E, con3E, endE, CisI, CisW, CisR, CisP, CisS, atI0, atI1, uSortL, uSortSet, uLenSet, atI2, atI3, uiRow, uiVar, uiRng1, uiRng2, uLc, noOi_fr, noOi_un, noOi_ow, uIxO, List.all_cons, List.all_nil, wipeD, uExpr, uAttr, putD, uMake, uiEnum, initE, iNx, Sl.oi.injEq, and_imp, forall_eq', forall_apply_eq_imp_iff, uM0, uM1, uM2, uMp1, uMp2, eqv_lnil, shp_lnil, shp_ints, retM, uSl, uoN, uoS, wRep, wLtP, uJoin, wRepr, uKwC, wStrO, isSeqD, rowD_P, rowD_S, rowD_Sq, rowD_Sh, tup_P, tup_S, tup_S', lit_sz, shpP60, shpS60, shpsP59, shpsS59, any_P, any_S, any_I, all_P, all_S, tupK_P, tupK_S, alike_two, alike_P, alike_S, optD, shp_int, shp_non, shp_bl, eqv_int, eqv_bl, decide_eq_true_eq, decide_eq_false_iff_not, Bool.not_eq_true', Bool.not_eq_false', Bool.not_true, Bool.not_false, Bool.true_eq_false, Bool.false_eq_true, Bool.and_self, em, rl]
    refine ⟨L, l, cs, _, rfl, rfl, by decide, by decide, by omega, fun d hd => ?_⟩
    have hv : ∃ v : Nat, d = .int (v : Int) ∧ v ≤ 2 := by
      simp only [List.mem_cons, List.not_mem_nil, or_false] at hd
      rcases hd with rfl | rfl | rfl | rfl
      · exact ⟨0, rfl, by decide⟩
      · exact ⟨0, rfl, by decide⟩
      · exact ⟨1, rfl, by decide⟩
      · exact ⟨2, rfl, by decide⟩
    obtain ⟨v, rfl, v2⟩ := hv
    simp only [uSeq, later_cons, uNext, uRet, uRetN, uIf, uSet, uSetO, uAsg, uFrz, uFrz1, frzAll, frz1, retE, uVar, uK, u2, wI, cYes, wEq, wIsN, wIx, wMem, uAnd, uOr, uNot, uB, uTAnd, uTOr, uTNot, uRowT, uIte, uChain, uNil, uCons, uLst, uTup, uFld, uSelf, uC, wLen, wTupOf, wI1, wI2, wInt, wBls, wInts, wIsi1, wIsiC, uIsRow, uCall, uCallN, uT, uTs, rowD_lst, rowD_tup, rowD_int, isBk, uRaise, uPar, uParOO, uApp, uExt, uPop, uAug, uNeg, uTIx, wCat, frs0, List.map_cons, List.map_nil, List.getElem?_cons_zero, List.getElem?_cons_succ, List.set_cons_zero, List.set_cons_succ, List.length_cons, List.length_nil, List.nil_append, List.cons_append, Nat.reduceAdd, Nat.reduceSub, List.replicate_zero, List.replicate_succ, isNonD, isFlat, xor_f, xor_t, Bool.true_or, Bool.false_or, Bool.and_true, Bool.true_and, Bool.or_true, Bool.or_false, true_and, and_true, forall_const, true_implies, false_implies, implies_true, Bool.false_eq_true, reduceCtorEq, Option.some.injEq, exists_eq_left, exists_eq_left', kit_tab, exists_and_left, Option.isSome_some, Option.isSome_none, con1, con2, con3, con4, con1E, con2E, con3E, endE, CisI, CisW, CisR, CisP, CisS, atI0, atI1, uSortL, uSortSet, uLenSet, atI2, atI3, uiRow, uiVar, uiRng1, uiRng2, uLc, noOi_fr, noOi_un, noOi_ow, uIxO, List.all_cons, List.all_nil, wipeD, uExpr, uAttr, putD, uMake, uiEnum, initE, iNx, Sl.oi.injEq, and_imp, forall_eq', forall_apply_eq_imp_iff, uM0, uM1, uM2, uMp1, uMp2, eqv_lnil, shp_lnil, shp_ints, retM, uSl, uoN, uoS, wRep, wLtP, uJoin, wRepr, uKwC, wStrO, isSeqD, rowD_P, rowD_S, rowD_Sq, rowD_Sh, tup_P, tup_S, tup_S', lit_sz, shpP60, shpS60, shpsP59, shpsS59, any_P, any_S, any_I, all_P, all_S, tupK_P, tupK_S, alike_two, alike_P, alike_S, optD, shp_int, shp_non, shp_bl, eqv_int, eqv_bl, decide_eq_true_eq, decide_eq_false_iff_not, Bool.not_eq_true', Bool.not_eq_false', Bool.not_true, Bool.not_false, Bool.true_eq_false, Bool.false_eq_true, Bool.and_self, em]
    refine ⟨by omega, by omega, ?_⟩
    rw [Int.toNat_natCast]
    have hs := bl.hang
    have slen : (srt ltP found).length = found.length := srt_len found
    refine forG_i (fun i t' δ => t' ≤ t + 1 + 1 + 2 * n + 1 + i ∧ i ≤ v ∧ ∃ shut x3 x4 x7 x8, δ = [.fr (.adr L), .fr (.int k), .fr (.lst (found.map encP)), x3, x4, .fr (.lst ((srt ltP found).map encP)), .fr (.lst (shut.map encS)), x7, x8] ∧ noOi (some x8) = true ∧ shut.Nodup ∧ shut.length ≤ i ∧ (∀ s ∈ shut, s ∈ sidesRaw (srt ltP found)) ∧ HangP (srt ltP found) shut) ⟨Nat.le_refl _, Nat.zero_le _, [], _, _, _, _, rfl, rfl, by simp, Nat.le_refl _, by simp, hs⟩ ?_ ?_
    · rintro i d t' δ ei ⟨t1, hin2, shut, x3, x4, x7, x8, rfl, no8, nd, sl, sub, hg⟩ N hN
      have li : i < v := by
        have := (List.getElem?_eq_some_iff.mp ei).1
        rwa [rangeD, List.length_map, List.length_range] at this
      simp only [uSeq, later_cons, uNext, uRet, uRetN, uIf, uSet, uSetO, uAsg, uFrz, uFrz1, frzAll, frz1, retE, uVar, uK, u2, wI, cYes, wEq, wIsN, wIx, wMem, uAnd, uOr, uNot, uB, uTAnd, uTOr, uTNot, uRowT, uIte, uChain, uNil, uCons, uLst, uTup, uFld, uSelf, uC, wLen, wTupOf, wI1, wI2, wInt, wBls, wInts, wIsi1, wIsiC, uIsRow, uCall, uCallN, uT, uTs, rowD_lst, rowD_tup, rowD_int, isBk, uRaise, uPar, uParOO, uApp, uExt, uPop, uAug, uNeg, uTIx, wCat, frs0, List.map_cons, List.map_nil, List.getElem?_cons_zero, List.getElem?_cons_succ, List.set_cons_zero, List.set_cons_succ, List.length_cons, List.length_nil, List.nil_append, List.cons_append, Nat.reduceAdd, Nat.reduceSub, List.replicate_zero, List.replicate_succ, isNonD, isFlat, xor_f, xor_t, Bool.true_or, Bool.false_or, Bool.and_true, Bool.true_and, Bool.or_true, Bool.or_false, true_and, and_true, forall_const, true_implies, false_implies, implies_true, Bool.false_eq_true, reduceCtorEq, Option.some.injEq, exists_eq_left, exists_eq_left', kit_tab, exists_and_left, Option.isSome_some, Option.isSome_none, con1, con2, con3, con4, con1E, con2E, con3E, endE, CisI, CisW, CisR, CisP, CisS, atI0, atI1, uSortL, uSortSet, uLenSet, atI2, atI3, uiRow, uiVar, uiRng1, uiRng2, uLc, noOi_fr, noOi_un, noOi_ow, uIxO, List.all_cons, List.all_nil, wipeD, uExpr, uAttr, putD, uMake, uiEnum, initE, iNx, Sl.oi.injEq, and_imp, forall_eq', forall_apply_eq_imp_iff, uM0, uM1, uM2, uMp1, uMp2, eqv_lnil, shp_lnil, shp_ints, retM, uSl, uoN, uoS, wRep, wLtP, uJoin, wRepr, uKwC, wStrO, isSeqD, rowD_P, rowD_S, rowD_Sq, rowD_Sh, tup_P, tup_S, tup_S', lit_sz, shpP60, shpS60, shpsP59, shpsS59, any_P, any_S, any_I, all_P, all_S, tupK_P, tupK_S, alike_two, alike_P, alike_S, optD, shp_int, shp_non, shp_bl, eqv_int, eqv_bl, decide_eq_true_eq, decide_eq_false_iff_not, Bool.not_eq_true', Bool.not_eq_false', Bool.not_true, Bool.not_false, Bool.true_eq_false, Bool.false_eq_true, Bool.and_self, em, no8]
      have s2 : v ≤ 2 := v2
      have l1 := bl.l1
      refine ⟨_, rfl, by omega, ?_⟩
      simp only [uSeq, later_cons, uNext, uRet, uRetN, uIf, uSet, uSetO, uAsg, uFrz, uFrz1, frzAll, frz1, retE, uVar, uK, u2, wI, cYes, wEq, wIsN, wIx, wMem, uAnd, uOr, uNot, uB, uTAnd, uTOr, uTNot, uRowT, uIte, uChain, uNil, uCons, uLst, uTup, uFld, uSelf, uC, wLen, wTupOf, wI1, wI2, wInt, wBls, wInts, wIsi1, wIsiC, uIsRow, uCall, uCallN, uT, uTs, rowD_lst, rowD_tup, rowD_int, isBk, uRaise, uPar, uParOO, uApp, uExt, uPop, uAug, uNeg, uTIx, wCat, frs0, List.map_cons, List.map_nil, List.getElem?_cons_zero, List.getElem?_cons_succ, List.set_cons_zero, List.set_cons_succ, List.length_cons, List.length_nil, List.nil_append, List.cons_append, Nat.reduceAdd, Nat.reduceSub, List.replicate_zero, List.replicate_succ, isNonD, isFlat, xor_f, xor_t, Bool.true_or, Bool.false_or, Bool.and_true, Bool.true_and, Bool.or_true, Bool.or_false, true_and, and_true, forall_const, true_implies, false_implies, implies_true, Bool.false_eq_true, reduceCtorEq, Option.some.injEq, exists_eq_left, exists_eq_left', kit_tab, exists_and_left, Option.isSome_some, Option.isSome_none, con1, con2, con3, con4, con1E, con2E, con3E, endE, CisI, CisW, CisR, CisP, CisS, atI0, atI1, uSortL, uSortSet, uLenSet, atI2, atI3, uiRow, uiVar, uiRng1, uiRng2, uLc, noOi_fr, noOi_un, noOi_ow, uIxO, List.all_cons, List.all_nil, wipeD, uExpr, uAttr, putD, uMake, uiEnum, initE, iNx, Sl.oi.injEq, and_imp, forall_eq', forall_apply_eq_imp_iff, uM0, uM1, uM2, uMp1, uMp2, eqv_lnil, shp_lnil, shp_ints, retM, uSl, uoN, uoS, wRep, wLtP, uJoin, wRepr, uKwC, wStrO, isSeqD, rowD_P, rowD_S, rowD_Sq, rowD_Sh, tup_P, tup_S, tup_S', lit_sz, shpP60, shpS60, shpsP59, shpsS59, any_P, any_S, any_I, all_P, all_S, tupK_P, tupK_S, alike_two, alike_P, alike_S, optD, shp_int, shp_non, shp_bl, eqv_int, eqv_bl, decide_eq_true_eq, decide_eq_false_iff_not, Bool.not_eq_true', Bool.not_eq_false', Bool.not_true, Bool.not_false, Bool.true_eq_false, Bool.false_eq_true, Bool.and_self, em, no8]
      have rw2 := raw_len (srt ltP found) (srt ltP found)
      have rl2 : (srt ltS (sidesRaw (srt ltP found))).length ≤ 16 := by
        rw [srt_len]
        unfold sidesRaw
        omega
      refine ⟨by rw [List.length_map, sizeLine_eq]; omega, lcG_fm (selD (srt ltP found) shut) (fun s hs2 Kk Nn hq => ?_) ?_⟩
      · have ss : D.shps 59 (shut.map encS) = true := shps_S 57 shut
        simp only [uSeq, later_cons, uNext, uRet, uRetN, uIf, uSet, uSetO, uAsg, uFrz, uFrz1, frzAll, frz1, retE, uVar, uK, u2, wI, cYes, wEq, wIsN, wIx, wMem, uAnd, uOr, uNot, uB, uTAnd, uTOr, uTNot, uRowT, uIte, uChain, uNil, uCons, uLst, uTup, uFld, uSelf, uC, wLen, wTupOf, wI1, wI2, wInt, wBls, wInts, wIsi1, wIsiC, uIsRow, uCall, uCallN, uT, uTs, rowD_lst, rowD_tup, rowD_int, isBk, uRaise, uPar, uParOO, uApp, uExt, uPop, uAug, uNeg, uTIx, wCat, frs0, List.map_cons, List.map_nil, List.getElem?_cons_zero, List.getElem?_cons_succ, List.set_cons_zero, List.set_cons_succ, List.length_cons, List.length_nil, List.nil_append, List.cons_append, Nat.reduceAdd, Nat.reduceSub, List.replicate_zero, List.replicate_succ, isNonD, isFlat, xor_f, xor_t, Bool.true_or, Bool.false_or, Bool.and_true, Bool.true_and, Bool.or_true, Bool.or_false, true_and, and_true, forall_const, true_implies, false_implies, implies_true, Bool.false_eq_true, reduceCtorEq, Option.some.injEq, exists_eq_left, exists_eq_left', kit_tab, exists_and_left, Option.isSome_some, Option.isSome_none, con1, con2, con3, con4, con1E, con2E, con3E, endE, CisI, CisW, CisR, CisP, CisS, atI0, atI1, uSortL, uSortSet, uLenSet, atI2, atI3, uiRow, uiVar, uiRng1, uiRng2, uLc, noOi_fr, noOi_un, noOi_ow, uIxO, List.all_cons, List.all_nil, wipeD, uExpr, uAttr, putD, uMake, uiEnum, initE, iNx, Sl.oi.injEq, and_imp, forall_eq', forall_apply_eq_imp_iff, uM0, uM1, uM2, uMp1, uMp2, eqv_lnil, shp_lnil, shp_ints, retM, uSl, uoN, uoS, wRep, wLtP, uJoin, wRepr, uKwC, wStrO, isSeqD, rowD_P, rowD_S, rowD_Sq, rowD_Sh, tup_P, tup_S, tup_S', lit_sz, shpP60, shpS60, shpsP59, shpsS59, any_P, any_S, any_I, all_P, all_S, tupK_P, tupK_S, alike_two, alike_P, alike_S, optD, shp_int, shp_non, shp_bl, eqv_int, eqv_bl, decide_eq_true_eq, decide_eq_false_iff_not, Bool.not_eq_true', Bool.not_eq_false', Bool.not_true, Bool.not_false, Bool.true_eq_false, Bool.false_eq_true, Bool.and_self, em, ss]
        refine ⟨fun ns => ⟨by rw [List.length_map, sizeLine_eq]; omega, srt ltP found, shut ++ [s], by rw [List.map_append]; rfl, by omega, by omega, (srt_perm ltP found).nodup_iff.mpr bl.nd, fun b hb => ⟨fun z => ?_, fun z => ?_⟩⟩, fun ys => ?_⟩
        · rw [selD_yes ⟨ns, hb.mp z⟩] at hq
          exact hq
        · rw [selD_no (fun y => by rw [hb.mpr y.2] at z; cases z)] at hq
          exact hq
        · rw [selD_no (fun y => y.1 ys)] at hq
          exact hq
      · obtain ⟨S, eS, Smem, Sl⟩ := sel_fm (srt ltP found) shut (srt ltS (sidesRaw (srt ltP found)))
        rw [List.nil_append, eS]
        have sS : D.shp 60 (.lst (S.map encS)) = true := shps_S 57 S
        refine ⟨sS, fun ne => ⟨L, l, cs, _, rfl, rfl, ?_, by rw [List.length_map]; omega, by omega, fun d3 hd3 => ?_⟩, fun em2 => ?_⟩
        · rw [List.length_map]
          cases S with
          | nil => cases ne
          | cons a r => simp
        · obtain ⟨s, hs3, rfl⟩ := List.mem_map.mp hd3
          obtain ⟨m1, m2, m3⟩ := Smem s hs3
          refine ⟨by rw [List.length_map, sizeLine_eq]; omega, ?_⟩
          have e3 : shut.map encS ++ [encS s] = (shut ++ [s]).map encS := by rw [List.map_append]; rfl
          rw [e3]
          have m1 := srt_mem s |>.mp m1
          refine hN _ _ ⟨by omega, by omega, shut ++ [s], _, _, _, _, rfl, no8, List.nodup_append.mpr ⟨nd, by simp, fun a ha c hc z => ?_⟩, by rw [List.length_append]; simp only [List.length_cons, List.length_nil]; omega, fun x hx => ?_, m3⟩
          · rw [List.mem_singleton.mp hc] at z
            exact m2 (z ▸ ha)
          · rcases List.mem_append.mp hx with z | z
            · exact sub x z
            · rw [List.mem_singleton.mp z]; exact m1
        · refine ⟨by rw [List.length_map, sizeLine_eq]; omega, ?_⟩
          rw [List.append_nil]
          exact hN _ _ ⟨by omega, by omega, shut, _, _, _, _, rfl, no8, nd, by omega, sub, hg⟩
    · rintro t' δ ⟨t1, hin2, shut, x3, x4, x7, x8, rfl, no8, nd, sl, sub, hg⟩
      simp only [uSeq, later_cons, uNext, uRet, uRetN, uIf, uSet, uSetO, uAsg, uFrz, uFrz1, frzAll, frz1, retE, uVar, uK, u2, wI, cYes, wEq, wIsN, wIx, wMem, uAnd, uOr, uNot, uB, uTAnd, uTOr, uTNot, uRowT, uIte, uChain, uNil, uCons, uLst, uTup, uFld, uSelf, uC, wLen, wTupOf, wI1, wI2, wInt, wBls, wInts, wIsi1, wIsiC, uIsRow, uCall, uCallN, uT, uTs, rowD_lst, rowD_tup, rowD_int, isBk, uRaise, uPar, uParOO, uApp, uExt, uPop, uAug, uNeg, uTIx, wCat, frs0, List.map_cons, List.map_nil, List.getElem?_cons_zero, List.getElem?_cons_succ, List.set_cons_zero, List.set_cons_succ, List.length_cons, List.length_nil, List.nil_append, List.cons_append, Nat.reduceAdd, Nat.reduceSub, List.replicate_zero, List.replicate_succ, isNonD, isFlat, xor_f, xor_t, Bool.true_or, Bool.false_or, Bool.and_true, Bool.true_and, Bool.or_true, Bool.or_false, true_and, and_true, forall_const, true_implies, false_implies, implies_true, Bool.false_eq_true, reduceCtorEq, Option.some.injEq, exists_eq_left, exists_eq_left', kit_tab, exists_and_left, Option.isSome_some, Option.isSome_none, con1, con2, con3, con4, con1E, con2E, con3E, endE, CisI, CisW, CisR, CisP, CisS, atI0, atI1, uSortL, uSortSet, uLenSet, atI2, atI3, uiRow, uiVar, uiRng1, uiRng2, uLc, noOi_fr, noOi_un, noOi_ow, uIxO, List.all_cons, List.all_nil, wipeD, uExpr, uAttr, putD, uMake, uiEnum, initE, iNx, Sl.oi.injEq, and_imp, forall_eq', forall_apply_eq_imp_iff, uM0, uM1, uM2, uMp1, uMp2, eqv_lnil, shp_lnil, shp_ints, retM, uSl, uoN, uoS, wRep, wLtP, uJoin, wRepr, uKwC, wStrO, isSeqD, rowD_P, rowD_S, rowD_Sq, rowD_Sh, tup_P, tup_S, tup_S', lit_sz, shpP60, shpS60, shpsP59, shpsS59, any_P, any_S, any_I, all_P, all_S, tupK_P, tupK_S, alike_two, alike_P, alike_S, optD, shp_int, shp_non, shp_bl, eqv_int, eqv_bl, decide_eq_true_eq, decide_eq_false_iff_not, Bool.not_eq_true', Bool.not_eq_false', Bool.not_true, Bool.not_false, Bool.true_eq_false, Bool.false_eq_true, Bool.and_self, em]
      rw [rangeD, List.length_map, List.length_range] at t1 sl
      refine ⟨by rw [List.length_map, sizeLine_eq]; omega, fun M2 pm2 sr2 => ?_⟩
      rw [sorted_list ordS (fun _ _ => encS_inj) srtD_S pm2 sr2]
      refine ⟨L, l, cs, _, rfl, rfl, by decide, by decide, by omega, fun d hd => ?_⟩
      have gl : GoodL (srt ltP found) (srt ltS shut) := ⟨srt_strict ordP bl.nd, by rw [slen]; exact bl.l1, by omega, fun p hp => bl.inB (by omega) p (srt_mem p |>.mp hp), srt_strict ordS nd, by rw [srt_len]; omega, fun s hs3 => sub s (srt_mem s |>.mp hs3), hang_srt hg⟩
      have hf : ∃ f, d = .int f ∧ (f = 1 ∨ f = 2 ∨ f = 3) := by
        simp only [List.mem_cons, List.not_mem_nil, or_false] at hd
        rcases hd with rfl | rfl | rfl | rfl | rfl
        all_goals exact ⟨_, rfl, by decide⟩
      obtain ⟨f, rfl, hf⟩ := hf
      exact ⟨t + 40, by omega, q _ _ _ gl hf⟩
end
end K06

set_option linter.all false
set_option maxRecDepth 100000
set_option maxHeartbeats 4000000
namespace K06
open PySem PySem.Spec PyProof.Rows L2 Nv VL
section
variable {P : Program} {w : World} {K : PySem.W.Frag} {mg : Str → Option Value} {base : Heap} {tk : Tok} {aST aEN CR CB CF fB fF : Addr} {dB dF : FuncData}
abbrev s_Room_str : Stmt := inClass (topS 32) 2
theorem sc_Room_str : FnScope ["self", "squares", "i", "j", "sides", "k", "m"] ["self"] (defScope s_Room_str) := ⟨rfl, rfl, rfl, by decide +kernel, rfl, by decide +kernel, by decide +kernel⟩
theorem ok_Room_str {f : Addr} {fd : FuncData} (F : Fun K "__str__" "Room.__str__" s_Room_str f fd) (T : Txt2 K mg tk aST aEN CR CB CF fB fF dB dF) : FnOk P w K mg base (L2.CX P w) 1 f fd ["self"] (spV K (C_str CR)) := by
  refine con_ok F sc_Room_str (fun m t ds Pq pe h => by obtain ⟨_, _, _, rfl, _⟩ := h; rfl) (fun c pe cdv A outer s H E hK tk hx hr => ⟨_, (vs_cons (vs_set (i := 1) sc_Room_str.nd rfl (by first | exact Or.inl rfl | exact Or.inr rfl) (v_join hK (v_str pe_str) (ne_ve (vn_lc hK (by rfl) sc_Room_str.nd (T := (.tp [(.nm 2), (.nm 3)])) (own := [(("i" : Str), 2), (("j" : Str), 3)]) (by decide) (vi_row hK (v_fld hK T.cl_Room T.no_Room_squares (v_var (pv 0)) (by rfl))) (blkOk_by (N := ["self", "squares", "i", "j", "sides", "k", "m"]) (sc := defScope s_Room_str) (by decide +kernel)) (fun _ _ _ _ _ => (pg_sq (by rfl) (pgs_cons (pg_name (i := 2) sc_Room_str.nd rfl (by first | exact Or.inl rfl | exact Or.inr rfl)) (pgs_cons (pg_name (i := 3) sc_Room_str.nd rfl (by first | exact Or.inl rfl | exact Or.inr rfl)) pgs_nil)))) (fun _ _ _ _ _ => vts_nil) (fun _ _ _ _ _ => (v_joined (vj_cons (v_str pe_str) (vj_cons (v_fmt (v_var (pv 2))) (vj_cons (v_str pe_str) (vj_cons (v_fmt (v_var (pv 3))) vj_nil))))))))))
(vs_cons (vs_set (i := 4) sc_Room_str.nd rfl (by first | exact Or.inl rfl | exact Or.inr rfl) (v_join hK (v_str pe_str) (ne_ve (vn_lc hK (by rfl) sc_Room_str.nd (T := (.tp [(.tp [(.nm 2), (.nm 3)]), (.tp [(.nm 5), (.nm 6)])])) (own := [(("i" : Str), 2), (("j" : Str), 3), (("k" : Str), 5), (("m" : Str), 6)]) (by decide) (vi_row hK (v_fld hK T.cl_Room T.no_Room_shut (v_var (pv 0)) (by rfl))) (blkOk_by (N := ["self", "squares", "i", "j", "sides", "k", "m"]) (sc := defScope s_Room_str) (by decide +kernel)) (fun _ _ _ _ _ => (pg_sq (by rfl) (pgs_cons (pg_sq (by rfl) (pgs_cons (pg_name (i := 2) sc_Room_str.nd rfl (by first | exact Or.inl rfl | exact Or.inr rfl)) (pgs_cons (pg_name (i := 3) sc_Room_str.nd rfl (by first | exact Or.inl rfl | exact Or.inr rfl)) pgs_nil))) (pgs_cons (pg_sq (by rfl) (pgs_cons (pg_name (i := 5) sc_Room_str.nd rfl (by first | exact Or.inl rfl | exact Or.inr rfl)) (pgs_cons (pg_name (i := 6) sc_Room_str.nd rfl (by first | exact Or.inl rfl | exact Or.inr rfl)) pgs_nil))) pgs_nil)))) (fun _ _ _ _ _ => vts_nil) (fun _ _ _ _ _ => (v_joined (vj_cons (v_str pe_str) (vj_cons (v_fmt (v_var (pv 2))) (vj_cons (v_str pe_str) (vj_cons (v_fmt (v_var (pv 3))) (vj_cons (v_str pe_str) (vj_cons (v_fmt (v_var (pv 5))) (vj_cons (v_str pe_str) (vj_cons (v_fmt (v_var (pv 6))) vj_nil))))))))))))))
(vs_one (vs_ret (v_joined (vj_cons (v_str pe_str) (vj_cons (v_fmt (v_fld hK T.cl_Room T.no_Room_fine (v_var (pv 0)) (by rfl))) (vj_cons (v_fmt (v_var (pv 1))) (vj_cons (v_fmt (v_var (pv 4))) vj_nil))))))))), fun t ds Pq h => ?_⟩)
  obtain ⟨sq, sh, f, rfl, l1, l2, b1, b2, sf, q⟩ := h
  simp only [uSeq, later_cons, uNext, uRet, uRetN, uIf, uSet, uSetO, uAsg, uFrz, uFrz1, frzAll, frz1, retE, uVar, uK, u2, wI, cYes, wEq, wIsN, wIx, wMem, uAnd, uOr, uNot, uB, uTAnd, uTOr, uTNot, uRowT, uIte, uChain, uNil, uCons, uLst, uTup, uFld, uSelf, uC, wLen, wTupOf, wI1, wI2, wInt, wBls, wInts, wIsi1, wIsiC, uIsRow, uCall, uCallN, uT, uTs, rowD_lst, rowD_tup, rowD_int, isBk, uRaise, uPar, uParOO, uApp, uExt, uPop, uAug, uNeg, uTIx, wCat, frs0, List.map_cons, List.map_nil, List.getElem?_cons_zero, List.getElem?_cons_succ, List.set_cons_zero, List.set_cons_succ, List.length_cons, List.length_nil, List.nil_append, List.cons_append, Nat.reduceAdd, Nat.reduceSub, List.replicate_zero, List.replicate_succ, isNonD, isFlat, xor_f, xor_t, Bool.true_or, Bool.false_or, Bool.and_true, Bool.true_and, Bool.or_true, Bool.or_false, true_and, and_true, forall_const, true_implies, false_implies, implies_true, Bool.false_eq_true, reduceCtorEq, Option.some.injEq, exists_eq_left, exists_eq_left', kit_tab, exists_and_left, Option.isSome_some, Option.isSome_none, con1, con2, con3, con4, con1E, con2E, con3E, endE, CisI, CisW, CisR, CisP, CisS, atI0, atI1, uSortL, uSortSet, uLenSet, atI2, atI3, uiRow, uiVar, uiRng1, uiRng2, uLc, noOi_fr, noOi_un, noOi_ow, uIxO, List.all_cons, List.all_nil, wipeD, uExpr, uAttr, putD, uMake, uiEnum, initE, iNx, Sl.oi.injEq, and_imp, forall_eq', forall_apply_eq_imp_iff, uM0, uM1, uM2, uMp1, uMp2, eqv_lnil, shp_lnil, shp_ints, retM, uSl, uoN, uoS, wRep, wLtP, uJoin, wRepr, uKwC, wStrO, isSeqD, rowD_P, rowD_S, rowD_Sq, rowD_Sh, tup_P, tup_S, tup_S', lit_sz, shpP60, shpS60, shpsP59, shpsS59, any_P, any_S, any_I, all_P, all_S, tupK_P, tupK_S, alike_two, alike_P, alike_S, optD, shp_int, shp_non, shp_bl, eqv_int, eqv_bl, decide_eq_true_eq, decide_eq_false_iff_not, Bool.not_eq_true', Bool.not_eq_false', Bool.not_true, Bool.not_false, Bool.true_eq_false, Bool.false_eq_true, Bool.and_self, roomD, nmR, nmB, List.lookup_cons, beq_self_eq_true]
  refine ⟨by rw [List.length_map, sizeLine_eq]; omega, lcG_map (fun p => .str (sqTxt p)) (fun p hp Kk hq => ?_) ?_⟩
  · obtain ⟨h1, h2⟩ := inB_sm (b1 p hp)
    obtain ⟨a1, g1⟩ := smI_len h1
    obtain ⟨a2, g2⟩ := smI_len h2
    simp only [uSeq, later_cons, uNext, uRet, uRetN, uIf, uSet, uSetO, uAsg, uFrz, uFrz1, frzAll, frz1, retE, uVar, uK, u2, wI, cYes, wEq, wIsN, wIx, wMem, uAnd, uOr, uNot, uB, uTAnd, uTOr, uTNot, uRowT, uIte, uChain, uNil, uCons, uLst, uTup, uFld, uSelf, uC, wLen, wTupOf, wI1, wI2, wInt, wBls, wInts, wIsi1, wIsiC, uIsRow, uCall, uCallN, uT, uTs, rowD_lst, rowD_tup, rowD_int, isBk, uRaise, uPar, uParOO, uApp, uExt, uPop, uAug, uNeg, uTIx, wCat, frs0, List.map_cons, List.map_nil, List.getElem?_cons_zero, List.getElem?_cons_succ, List.set_cons_zero, List.set_cons_succ, List.length_cons, List.length_nil, List.nil_append, List.cons_append, Nat.reduceAdd, Nat.reduceSub, List.replicate_zero, List.replicate_succ, isNonD, isFlat, xor_f, xor_t, Bool.true_or, Bool.false_or, Bool.and_true, Bool.true_and, Bool.or_true, Bool.or_false, true_and, and_true, forall_const, true_implies, false_implies, implies_true, Bool.false_eq_true, reduceCtorEq, Option.some.injEq, exists_eq_left, exists_eq_left', kit_tab, exists_and_left, Option.isSome_some, Option.isSome_none, con1, con2, con3, con4, con1E, con2E, con3E, endE, CisI, CisW, CisR, CisP, CisS, atI0, atI1, uSortL, uSortSet, uLenSet, atI2, atI3, uiRow, uiVar, uiRng1, uiRng2, uLc, noOi_fr, noOi_un, noOi_ow, uIxO, List.all_cons, List.all_nil, wipeD, uExpr, uAttr, putD, uMake, uiEnum, initE, iNx, Sl.oi.injEq, and_imp, forall_eq', forall_apply_eq_imp_iff, uM0, uM1, uM2, uMp1, uMp2, eqv_lnil, shp_lnil, shp_ints, retM, uSl, uoN, uoS, wRep, wLtP, uJoin, wRepr, uKwC, wStrO, isSeqD, rowD_P, rowD_S, rowD_Sq, rowD_Sh, tup_P, tup_S, tup_S', lit_sz, shpP60, shpS60, shpsP59, shpsS59, any_P, any_S, any_I, all_P, all_S, tupK_P, tupK_S, alike_two, alike_P, alike_S, optD, shp_int, shp_non, shp_bl, eqv_int, eqv_bl, decide_eq_true_eq, decide_eq_false_iff_not, Bool.not_eq_true', Bool.not_eq_false', Bool.not_true, Bool.not_false, Bool.true_eq_false, Bool.false_eq_true, Bool.and_self, uJs, uFmt, Str.length_append, lits]
    repeat' (first | exact hq | assumption | (rw [sizeLine_eq]; omega) | refine And.intro ?_ ?_)
  · have s1 := sum_len (f := sqTxt) fun p hp => sqTxt_len (b1 p hp)
    refine ⟨sq.map sqTxt, by rw [List.nil_append, List.map_map]; rfl, by rw [List.length_map, lits.2.2.2.2.1]; omega, by rw [List.length_map, sizeLine_eq]; omega, lcG_map (fun s => .str (shTxt s)) (fun s hs Kk hq => ?_) ?_⟩
    · obtain ⟨h1, h2⟩ := inB_sm (b2 s hs).1
      obtain ⟨h3, h4⟩ := inB_sm (b2 s hs).2
      obtain ⟨a1, g1⟩ := smI_len h1
      obtain ⟨a2, g2⟩ := smI_len h2
      obtain ⟨a3, g3⟩ := smI_len h3
      obtain ⟨a4, g4⟩ := smI_len h4
      simp only [uSeq, later_cons, uNext, uRet, uRetN, uIf, uSet, uSetO, uAsg, uFrz, uFrz1, frzAll, frz1, retE, uVar, uK, u2, wI, cYes, wEq, wIsN, wIx, wMem, uAnd, uOr, uNot, uB, uTAnd, uTOr, uTNot, uRowT, uIte, uChain, uNil, uCons, uLst, uTup, uFld, uSelf, uC, wLen, wTupOf, wI1, wI2, wInt, wBls, wInts, wIsi1, wIsiC, uIsRow, uCall, uCallN, uT, uTs, rowD_lst, rowD_tup, rowD_int, isBk, uRaise, uPar, uParOO, uApp, uExt, uPop, uAug, uNeg, uTIx, wCat, frs0, List.map_cons, List.map_nil, List.getElem?_cons_zero, List.getElem?_cons_succ, List.set_cons_zero, List.set_cons_succ, List.length_cons, List.length_nil, List.nil_append, List.cons_append, Nat.reduceAdd, Nat.reduceSub, List.replicate_zero, List.replicate_succ, isNonD, isFlat, xor_f, xor_t, Bool.true_or, Bool.false_or, Bool.and_true, Bool.true_and, Bool.or_true, Bool.or_false, true_and, and_true, forall_const, true_implies, false_implies, implies_true, Bool.false_eq_true, reduceCtorEq, Option.some.injEq, exists_eq_left, exists_eq_left', kit_tab, exists_and_left, Option.isSome_some, Option.isSome_none, con1, con2, con3, con4, con1E, con2E, con3E, endE, CisI, CisW, CisR, CisP, CisS, atI0, atI1, uSortL, uSortSet, uLenSet, atI2, atI3, uiRow, uiVar, uiRng1, uiRng2, uLc, noOi_fr, noOi_un, noOi_ow, uIxO, List.all_cons, List.all_nil, wipeD, uExpr, uAttr, putD, uMake, uiEnum, initE, iNx, Sl.oi.injEq, and_imp, forall_eq', forall_apply_eq_imp_iff, uM0, uM1, uM2, uMp1, uMp2, eqv_lnil, shp_lnil, shp_ints, retM, uSl, uoN, uoS, wRep, wLtP, uJoin, wRepr, uKwC, wStrO, isSeqD, rowD_P, rowD_S, rowD_Sq, rowD_Sh, tup_P, tup_S, tup_S', lit_sz, shpP60, shpS60, shpsP59, shpsS59, any_P, any_S, any_I, all_P, all_S, tupK_P, tupK_S, alike_two, alike_P, alike_S, optD, shp_int, shp_non, shp_bl, eqv_int, eqv_bl, decide_eq_true_eq, decide_eq_false_iff_not, Bool.not_eq_true', Bool.not_eq_false', Bool.not_true, Bool.not_false, Bool.true_eq_false, Bool.false_eq_true, Bool.and_self, uJs, uFmt, Str.length_append, lits]
      repeat' (first | exact hq | assumption | (rw [sizeLine_eq]; omega) | refine And.intro ?_ ?_)
    · have s2 := sum_len (f := shTxt) fun s hs => shTxt_len (b2 s hs).1 (b2 s hs).2
      refine ⟨sh.map shTxt, by rw [List.nil_append, List.map_map]; rfl, by rw [List.length_map, lits.2.2.2.2.1]; omega, ?_⟩
      have j1 := join_len "" (sq.map sqTxt)
      have j2 := join_len "" (sh.map shTxt)
      rw [List.length_map, lits.2.2.2.2.1] at j1 j2
      obtain ⟨a1, g1⟩ := smI_len sf
      simp only [uSeq, later_cons, uNext, uRet, uRetN, uIf, uSet, uSetO, uAsg, uFrz, uFrz1, frzAll, frz1, retE, uVar, uK, u2, wI, cYes, wEq, wIsN, wIx, wMem, uAnd, uOr, uNot, uB, uTAnd, uTOr, uTNot, uRowT, uIte, uChain, uNil, uCons, uLst, uTup, uFld, uSelf, uC, wLen, wTupOf, wI1, wI2, wInt, wBls, wInts, wIsi1, wIsiC, uIsRow, uCall, uCallN, uT, uTs, rowD_lst, rowD_tup, rowD_int, isBk, uRaise, uPar, uParOO, uApp, uExt, uPop, uAug, uNeg, uTIx, wCat, frs0, List.map_cons, List.map_nil, List.getElem?_cons_zero, List.getElem?_cons_succ, List.set_cons_zero, List.set_cons_succ, List.length_cons, List.length_nil, List.nil_append, List.cons_append, Nat.reduceAdd, Nat.reduceSub, List.replicate_zero, List.replicate_succ, isNonD, isFlat, xor_f, xor_t, Bool.true_or, Bool.false_or, Bool.and_true, Bool.true_and, Bool.or_true, Bool.or_false, true_and, and_true, forall_const, true_implies, false_implies, implies_true, Bool.false_eq_true, reduceCtorEq, Option.some.injEq, exists_eq_left, exists_eq_left', kit_tab, exists_and_left, Option.isSome_some, Option.isSome_none, con1, con2, con3, con4, con1E, con2E, con3E, endE, CisI, CisW, CisR, CisP, CisS, atI0, atI1, uSortL, uSortSet, uLenSet, atI2, atI3, uiRow, uiVar, uiRng1, uiRng2, uLc, noOi_fr, noOi_un, noOi_ow, uIxO, List.all_cons, List.all_nil, wipeD, uExpr, uAttr, putD, uMake, uiEnum, initE, iNx, Sl.oi.injEq, and_imp, forall_eq', forall_apply_eq_imp_iff, uM0, uM1, uM2, uMp1, uMp2, eqv_lnil, shp_lnil, shp_ints, retM, uSl, uoN, uoS, wRep, wLtP, uJoin, wRepr, uKwC, wStrO, isSeqD, rowD_P, rowD_S, rowD_Sq, rowD_Sh, tup_P, tup_S, tup_S', lit_sz, shpP60, shpS60, shpsP59, shpsS59, any_P, any_S, any_I, all_P, all_S, tupK_P, tupK_S, alike_two, alike_P, alike_S, optD, shp_int, shp_non, shp_bl, eqv_int, eqv_bl, decide_eq_true_eq, decide_eq_false_iff_not, Bool.not_eq_true', Bool.not_eq_false', Bool.not_true, Bool.not_false, Bool.true_eq_false, Bool.false_eq_true, Bool.and_self, roomD, nmR, nmB, List.lookup_cons, beq_self_eq_true, uJs, uFmt, Str.length_append, lits]
      repeat' (first | exact q _ | assumption | (rw [sizeLine_eq]; omega) | refine And.intro ?_ ?_)
end
end K06

set_option linter.all false
set_option maxRecDepth 100000
set_option maxHeartbeats 8000000
namespace K06
open PySem PySem.Spec PyProof.Rows L2 Nv LamX
abbrev s__law_heard : Stmt := topS 44
theorem sc__law_heard : FnScope ["ask", "caught", "error", "kinds", "words", "word", "is_so"] ["ask"] (defScope s__law_heard) := ⟨rfl, rfl, rfl, by decide +kernel, rfl, by decide +kernel, by decide +kernel⟩
theorem takes_len {X : Cx} {W : WX} (t : Takes X W) : Takes X (fun cls d σ H => σ.length = X.N.length → W cls d σ H) := fun u s' ⟨a, B, sI, pins, σ, H, cls, d, e, I, nb, up, sky, na, os, ag, w⟩ =>
  t u s' ⟨a, B, sI, pins, σ, H, cls, d, e, I, nb, up, sky, na, os, ag, w I.len⟩
theorem nxI {f : L2.St → Hp → Prop} {rt : VK} {bk ct : L2.St → Hp → Prop} {σ : L2.St} {H : Hp} (h : f σ H) : (Ends.mk f rt bk ct).nx σ H := h
theorem nxt {rest : TS} {D : Ends} {σ : L2.St} {H : Hp} (h : rest D σ H) : tNext { D with nx := rest D } σ H := h
theorem gnI {i : Nat} {v : V} {σ : L2.St} {H : Hp} {Q : L2.St → Hp → Prop} (h : Q (σ.set i (some v)) H) : gName i v σ H Q := h
theorem pSeq {s t : TS} {D : Ends} {σ : L2.St} {H : Hp} (h : s { D with nx := t D } σ H) : tSeq s t D σ H := h
theorem len7 {σ : L2.St} (h : σ.length = 7) : ∃ v0 v1 v2 v3 v4 v5 v6, σ = [v0, v1, v2, v3, v4, v5, v6] := by
  match σ, h with
  | [v0, v1, v2, v3, v4, v5, v6], _ => exact ⟨_, _, _, _, _, _, _, rfl⟩
theorem pSeqIf {c : TT} {t v rest : TS} {D : Ends} {σ : L2.St} {H : Hp} (h : c σ H fun b H1 => if b = true then t { D with nx := rest D } σ H1 else v { D with nx := rest D } σ H1) : tSeq (tIfS c t v) rest D σ H := h
/-- what the law hears of a call -/
def TTr (CB : Addr) : (XK → Hp → VK → Prop) → Hp → VK → Prop := fun tl H Q =>
  ∀ Q' : VK, (∀ v H', (∀ H2, Same H' H2 → Q .non H2) → Q' v H') → tl (fun cls d H' => ∃ (part : Str) (dd : Addr), cls = .ref CB ∧ d = some dd ∧ H' dd = some (.xd [("part", .str part)]) ∧
    ∀ (p : Addr) (H2 : Hp), Same H' H2 → H' p = none → H2 p = some (.tup [.str "room", .str part]) → Q (.ref p) H2) H Q'
structure TxtH (K : PySem.W.Frag) (mg : Str → Option Value) (CB CM : Addr) : Prop where
  g_MirrorError : mg "MirrorError" = some (.ref CM)
  g_BadRoom : mg "BadRoom" = some (.ref CB)
  n_isinstance : mg "isinstance" = none
  n_len : mg "len" = none
  eB : PySem.W.exmOne K (.ref CB) (.ref CM) = some true
  kBB : PySem.W.kitOne K (.ref CB) (.ref CB) = some true
  kNB : PySem.W.kitOne K (.type "NoneType") (.ref CB) = some false
section
variable {X : Cx} {K0 : PySem.W.Frag} {mg0 : Str → Option Value} {CB CM fB : Addr} {dB : FuncData}
theorem heard_gives {g : Addr} {cdg : Value} {q : Str} (hK : X.K = K0) (hM : X.mg = mg0) (T : TxtH K0 mg0 CB CM) (E_BadRoom : ErrC K0 mg0 "BadRoom" CB fB dB "BadRoom.__init__" s_BadRoom_init ["self", "part"]) (np : PySem.W.findIn K0 (.ref CB) "part" = some none) :
    GivesTo X ["ask", "caught", "error", "kinds", "words", "word", "is_so"] "_law_heard" (defScope s__law_heard) g cdg (defBody s__law_heard) "ask" q (TTr CB) := by
  obtain ⟨prog, w, K, mg, base, A, N, s0, H0, env, outer, stack, ex, fn, calm, pn0, xe0⟩ := X
  dsimp only at hK hM
  subst hK hM
  intro f c' s H Q tl act hc h
  let TBH : WX → TS := fun W D σ H => ∃ Ech : XK, (∀ cls d σ' H', Ech cls d H' → σ'.length = 7 → W cls d σ' H') ∧ σ[0]? = some (some (.ref f)) ∧ H c' = some (CodeO c' q) ∧ tl Ech H (fun _ H' => D.nx σ H')
  have ACT : ∀ (W : WX) (pn : List (Addr × Obj)) (xe : Value → Shared → Prop), Takes (((cxOf C8.CX0 prog w K mg base ["ask", "caught", "error", "kinds", "words", "word", "is_so"] "_law_heard" (defScope s__law_heard) g cdg A stack s H C8.E0).nox).tr pn xe) W →
      PassesOwn (model prog w) ((cxOf C8.CX0 prog w K mg base ["ask", "caught", "error", "kinds", "words", "word", "is_so"] "_law_heard" (defScope s__law_heard) g cdg A stack s H C8.E0).nox).A ((cxOf C8.CX0 prog w K mg base ["ask", "caught", "error", "kinds", "words", "word", "is_so"] "_law_heard" (defScope s__law_heard) g cdg A stack s H C8.E0).nox).env xe →
      ∀ p1 p2 p3 : Pos, PSs (((cxOf C8.CX0 prog w K mg base ["ask", "caught", "error", "kinds", "words", "word", "is_so"] "_law_heard" (defScope s__law_heard) g cdg A stack s H C8.E0).nox).tr pn xe) [.Expr (.Call (.Name "ask" p1) [] [] p2) p3] (TBH W) := fun W pn xe tk _ p1 p2 p3 => by
    refine ⟨fun pins s' σ H' D I h' => ?_⟩
    obtain ⟨Ech, hW, h1, h2, h3⟩ := h'
    have hp := act (fun cls d σ H => σ.length = 7 → W cls d σ H) pn xe Ech p1 p2 (takes_len tk) hW
    exact (pss_one (ps_expr (pos := p3) hp)).run pins s' σ H' D I ⟨h1, h2, h3⟩
  refine ⟨_, (pss_cons (Nv.ps_setN (i := 1) sc__law_heard.nd rfl (by first | exact Or.inl rfl | exact Or.inr rfl) pe_non)
(pss_cons (Nv.ps_try_held (i := 2) (c := .ref _) (tb := TBH) rfl rfl rfl sc__law_heard.nd rfl rfl ⟨by rfl, by decide, .inl T.g_MirrorError⟩ L2.takes0 (fun W pn xe tk hp => ACT W pn xe tk hp _ _ _) (fun a oe cls d pn _ _ => (pss_one (Nv.ps_setN (i := 1) sc__law_heard.nd rfl (by first | exact Or.inl rfl | exact Or.inr rfl) (pv 2)))))
(pss_cons (Nv.ps_setN (i := 3) sc__law_heard.nd rfl (by first | exact Or.inl rfl | exact Or.inr rfl) (Nv.pe_lstN (pa_cons (Nv.pe_tupN (pa_cons pe_str (pa_cons (pe_callB Nv.call_isX (by rfl) T.n_isinstance (by decide +kernel) (pa_cons (pv 1) (pa_cons (pe_glob (v := .ref _) (by rfl) T.g_BadRoom rfl) pa_nil))) pa_nil))) pa_nil)))
(pss_cons (ps_setLc (i := 4) (own := [(("word" : Str), 5), (("is_so" : Str), 6)]) (g := gTup K 2 (gCons (gName 5) (gCons (gName 6) gNil))) (by rfl) sc__law_heard.nd rfl rfl (sw_true rfl rfl rfl (by decide +kernel)) (pi_list (pv 3)) (blkOk_by (N := ["ask", "caught", "error", "kinds", "words", "word", "is_so"]) (sc := defScope s__law_heard) (by decide +kernel)) (fun _ _ _ _ _ => pg_tup (by rfl) (pgs_cons (pg_name (i := 5) sc__law_heard.nd rfl (by first | exact Or.inl rfl | exact Or.inr rfl)) (pgs_cons (pg_name (i := 6) sc__law_heard.nd rfl (by first | exact Or.inl rfl | exact Or.inr rfl)) pgs_nil))) (fun _ _ _ _ _ => (pts_one (pt_val (pv 6)))) (fun _ _ _ _ _ => (pv 5)))
(pss_cons (ps_if (pt_cmpR op_eq (pe_callB (Nv.cr_lenSeq (K := K) rfl) (by rfl) T.n_len (by decide +kernel) (pa_cons (pv 4) pa_nil)) pe_int (nomark _))
(pss_one (ps_ret (Nv.pe_tupN (pa_cons (pe_ix (Nv.ix_listK (K := K) rfl) (pv 4) pe_int (fun _ _ => rfl)) (pa_cons (Nv.pe_heldF (pv 1) (by rfl)) pa_nil)))))
pss_nil)
(pss_one (ps_ret (pe_ifExp (pt_cmpR op_isN (pv 1) pe_non (nomark _)) pe_non (Nv.pe_tupN (pa_cons pe_str (pa_cons pe_non pa_nil))))))))))), ?_⟩
  show tSeq (tAsg _ _) _ _ [some (.ref f), none, none, none, none, none, none] H
  refine fun σ1 c1 => ?_
  obtain rfl : σ1 = [some (.ref f), some .non, none, none, none, none, none] := c1
  have isN : ∀ (H2 : Hp) (R : VK), R (.bl false) H2 → rIsX K [.non, .ref CB] H2 R := fun H2 R q => .inl ⟨.non, .ref CB, .type "NoneType", .ref CB, false, rfl, .own CB, .base .non, T.kNB, q⟩
  refine ⟨_, ?_, rfl, hc, h _ fun v H1 fin => ?_⟩
  · rintro cls d σ' H1 ⟨part, dd, rfl, rfl, hd, fin⟩ l7
    obtain ⟨v0, v1, v2, v3, v4, v5, v6, rfl⟩ := len7 l7
    refine ⟨true, T.eB, fun _ a na => ?_, fun z => by cases z⟩
    refine ⟨_, rfl, fun σ2 c2 => fun na' => ?_⟩
    obtain rfl : σ2 = [v0, some (.ref a), some (.ref a), v3, v4, v5, v6] := c2
    refine nxI ?_
    show tSeq (tAsg _ _) _ _ [v0, some (.ref a), none, v3, v4, v5, v6] _
    generalize hH2 : upd H1 a (exC (.ref CB) a (some dd)) = H2
    have s2 : Same H1 H2 := by rw [← hH2]; exact Same.neu na
    have ea : H2 a = some (exC (.ref CB) a (some dd)) := by rw [← hH2]; exact upd_same
    have ed := s2 _ _ hd
    clear hH2
    refine ⟨_, rfl, .inr ⟨a, _, dd, _, .ref CB, .ref CB, true, rfl, ea, ed, .own CB, E_BadRoom.E, T.kBB, ⟨by show 2 ≤ sizeLine; decide, fun t1 H3 n3 e3 s3 => ⟨by show 1 ≤ sizeLine; decide, fun l H5 n5 e5 s5 => fun σ5 c5 => ?_⟩⟩⟩⟩
    obtain rfl : σ5 = [v0, some (.ref a), none, some (.ref l), v4, v5, v6] := c5
    have pr : Pairs K H5 [V.ref t1] [("room", true)] := ⟨⟨t1, rfl, SqT.of (s5 _ _ e3)⟩, True.intro⟩
    refine nxI (pSeq (pAsg (lc_words (K := K) (σ := [v0, some (.ref a), none, some (.ref l), v4, v5, v6]) (i := 5) (j := 6) (ow := [5, 6]) e5 pr (by show 1 ≤ 1000; decide) (by decide) (fun _ _ => rfl) (fun _ _ => rfl) (fun _ _ => rfl) (tl := tVar 3) (fun R q => ⟨_, rfl, q⟩) fun ws H6 n6 e6 s6 => ?_)))
    have s26 : Same H2 H6 := s3.trans (s5.trans s6)
    have ew : (([(("room" : Str), true)] : List (Str × Bool)).filter (·.2)).map (fun p => V.str p.1) = [.str "room"] := rfl
    rw [ew] at e6
    refine gnI (nxI ?_)
    show tSeq (tIfS _ _ _) _ _ [v0, some (.ref a), none, some (.ref l), some (.ref ws), v5, v6] _
    refine pSeqIf ?_
    refine ⟨_, rfl, ws, _, rfl, .inl (SqL.of e6), rfl, _, rfl, iteT ?_⟩
    refine ⟨_, rfl, ws, _, 0, .str "room", rfl, rfl, SqL.of e6, rfl, _, rfl, a, _, dd, _, .str part, rfl, s26 _ _ ea, s26 _ _ ed, E_BadRoom.X, np, rfl, by show 2 ≤ sizeLine; decide, fun p H7 n7 e7 s7 => ?_⟩
    refine fin p H7 ((s2.trans s26).trans s7) ?_ e7
    cases z : H1 p with
    | none => rfl
    | some o =>
      have := s26 _ _ (s2 _ _ z)
      rw [n7] at this
      cases this
  · refine nxI ?_
    show tSeq (tAsg _ _) _ _ [some (.ref f), some .non, none, none, none, none, none] H1
    refine ⟨_, rfl, isN H1 _ ⟨by show 2 ≤ sizeLine; decide, fun t1 H3 n3 e3 s3 => ⟨by show 1 ≤ sizeLine; decide, fun l H5 n5 e5 s5 => fun σ5 c5 => ?_⟩⟩⟩
    obtain rfl : σ5 = [some (.ref f), some .non, none, some (.ref l), none, none, none] := c5
    have pr : Pairs K H5 [V.ref t1] [("room", false)] := ⟨⟨t1, rfl, SqT.of (s5 _ _ e3)⟩, True.intro⟩
    refine nxI (pSeq (pAsg (lc_words (K := K) (σ := [some (.ref f), some .non, none, some (.ref l), none, none, none]) (i := 5) (j := 6) (ow := [5, 6]) e5 pr (by show 1 ≤ 1000; decide) (by decide) (fun _ _ => rfl) (fun _ _ => rfl) (fun _ _ => rfl) (tl := tVar 3) (fun R q => ⟨_, rfl, q⟩) fun ws H6 n6 e6 s6 => ?_)))
    refine gnI (nxI ?_)
    show tSeq (tIfS _ _ _) _ _ [some (.ref f), some .non, none, some (.ref l), some (.ref ws), none, none] _
    refine pSeqIf ?_
    refine ⟨_, rfl, ws, _, rfl, .inl (SqL.of e6), rfl, _, rfl, iteF (nxt ?_)⟩
    refine ⟨_, rfl, rfl, _, rfl, iteT (fin H6 (s3.trans (s5.trans s6)))⟩
end
end K06

set_option linter.all false
set_option maxRecDepth 100000
set_option maxHeartbeats 8000000
namespace K06
open PySem PySem.Spec PyProof.Rows L2 Nv VL LamX
abbrev s__law_mason : Stmt := topS 36
theorem sc__law_mason : FnScope ["script", "cell"] ["script"] (defScope s__law_mason) := ⟨rfl, rfl, rfl, by decide +kernel, rfl, by decide +kernel, by decide +kernel⟩
section
variable {P : Program} {w : World} {K : PySem.W.Frag} {mg : Str → Option Value} {base : Heap} {tk : Tok} {aST aEN CR CB CF fB fF : Addr} {dB dF : FuncData}
theorem ok_script {f : Addr} {fd : FuncData} (F : Fun K "_law_mason" "_law_mason" s__law_mason f fd) (T : Txt2 K mg tk aST aEN CR CB CF fB fF dB dF) : FnOk P w K mg base CX0 1 f fd ["script"] (spLantern K) := by
  refine F.ok sc__law_mason (fun vs H Q E h => ?_) (fun cdv A outer s H vs Q E hr h => ?_)
  · obtain ⟨a, ns, rfl, _⟩ := h
    rfl
  · obtain ⟨a, ns, rfl, hS, hlen, q⟩ := h
    refine ⟨_, (pss_one (ps_ret (pe_lst (pa_cons (pe_lc (own := [(("cell" : Str), 1)]) (g := gName 1) (by rfl) sc__law_mason.nd (pi_list (pe_slice sl_list (pv 0) po_none (po_some pe_int))) (blkOk_by (N := ["script", "cell"]) (sc := defScope s__law_mason) (by decide +kernel)) (fun _ _ _ _ _ => pg_name (i := 1) sc__law_mason.nd rfl (by first | exact Or.inl rfl | exact Or.inr rfl)) (fun _ _ _ _ _ => pts_nil) (fun _ _ _ _ _ => (pe_callTy call_int1 (by rfl) T.n_int (by decide +kernel) (pa_cons (pv 1) pa_nil)))) (pa_cons pe_int (pa_cons pe_int pa_nil)))))), ?_⟩
    refine ⟨_, rfl, 60, rfl, a, _, rfl, hS, fun p np => ⟨p, rfl, ⟨_, SqL.of upd_same⟩, fun D nD => ?_⟩⟩
    have e60 : cutV (ns.map V.int) none (some 60) = (ns.take 60).map V.int := by rw [cut60, List.map_take]
    have l60 : (ns.take 60).length ≤ 60 := by rw [List.length_take]; omega
    rw [e60] at nD ⊢
    generalize ns.take 60 = cs at l60 nD ⊢
    have npD : p ≠ D := ne_of_none upd_same nD
    refine lc_list (K := K) (a := p) (xs := cs.map V.int) (fun i H' => Same H H' ∧ H' p = some (.lst (cs.map V.int)) ∧ H' D = some (.lst ((cs.take i).map V.int)) ∧ H D = none) ⟨?_, ?_, ?_, ?_⟩ (fun i H' _ h => SqL.of h.2.1) ?_ ?_
    · intro b o e
      rw [upd_ne (ne_of_none ((Same.new (o := .lst (cs.map V.int)) np) _ _ e) nD)]
      exact (Same.new np) _ _ e
    · rw [upd_ne npD]; exact upd_same
    · exact upd_same
    · rw [upd_ne npD.symm] at nD; exact nD
    · rintro i x H' hx ⟨s1, h1, h2, h3⟩
      rw [List.getElem?_map] at hx
      cases e : cs[i]? with
      | none => rw [e] at hx; cases hx
      | some c =>
        rw [e] at hx
        cases hx
        refine ⟨rfl, ?_⟩
        dsimp only [tYes]
        rw [if_pos rfl]
        refine ⟨_, rfl, .inl ⟨c, rfl, _, h2, ?_, ?_, ?_, ?_, h3⟩⟩
        · rw [List.length_map, List.length_take]
          have : sizeLine = 16777216 := by decide
          omega
        · intro b o e2
          rw [upd_ne (ne_of_none e2 h3)]
          exact s1 _ _ e2
        · rw [upd_ne npD]; exact h1
        · rw [upd_same, List.take_add_one, e, List.map_append]
          rfl
    · rintro H' ⟨s1, h1, h2, h3⟩
      refine ⟨by show 3 ≤ sizeLine; decide, fun L nL => q _ L D cs (s1.trans (Same.new nL)) (s1.free nL) h3 ⟨0, 0, upd_same, ?_, ne_of_none h2 nL, l60, by decide, by decide⟩⟩
      rw [upd_ne (ne_of_none h2 nL), h2, List.length_map, List.take_length]
end
/-! ### what the law hears -/
theorem lamB0 {params : Arguments} {body : Expr} {scope : Scope} {i : Int} (hd : params.defaults = []) (h : ∀ (q : Str) (cl : List (Str × Addr)) (doc pm cv ctv : Value), bindArgs (PySem.W.kdv_fn "<lambda>" q params (.expr body) scope cl .none doc pm cv ctv) ⟨[], []⟩ = pure []) : LamBinds params body scope i := fun q cl dV doc pm cv ctv s hdv => by
  rcases hdv with ⟨_, rfl⟩ | ⟨z, _⟩
  · exact ⟨[], .of_eq (h q cl doc pm cv ctv), fun y hy => by cases hy⟩
  · exact absurd hd z
theorem lamB1 {params : Arguments} {body : Expr} {scope : Scope} {i : Int} {a : Str} (hd : params.defaults ≠ []) (hl : scope.names.lookup a = some .local)
    (h : ∀ (q : Str) (cl : List (Str × Addr)) (t : Addr) (doc pm cv ctv v : Value), ∃ k, bindArgs (PySem.W.kdv_fn "<lambda>" q params (.expr body) scope cl (.ref t) doc pm cv ctv) ⟨[], []⟩ = seqItems? (.ref t) >>= k ∧ k (some #[v]) = pure [(a, v)]) : LamBinds params body scope i := fun q cl dV doc pm cv ctv s hdv => by
  rcases hdv with ⟨z, _⟩ | ⟨_, t, tk, rfl, g⟩
  · exact absurd z hd
  · obtain ⟨k, e1, e2⟩ := h q cl t doc pm cv ctv (.int i tk)
    refine ⟨[(a, .int i tk)], BindsTo.of_looks fun M => ?_, fun y hy => ?_⟩
    · rw [e1]
      intro A Q E s' kp q
      refine wpAny_bind (wpAny_seqItems (kp _ _ g) rfl ?_)
      show wpAny M A (k (some #[.int i tk])) Q E s'
      rw [e2]
      exact wpAny_pure q
    · rw [List.mem_singleton.mp hy]
      exact hl
section
variable {X : Cx} {CB CM fB : Addr} {dB : FuncData}
theorem heard06 {ow : List Nat} {T : List (Addr × Str)} {g c P : Addr} {dH : FuncData} {k : Nat} {params : Arguments} {body : Expr} {scope : Scope} {t : XK → TE} {p lpos pos : Pos} {i : Int} (D : Df X.K X.mg "_law_heard" s__law_heard ["ask"] g dH) (hg : Gl X "_law_heard") (TH : TxtH X.K X.mg CB CM)
    (E_BadRoom : ErrC X.K X.mg "BadRoom" CB fB dB "BadRoom.__init__" s_BadRoom_init ["self", "part"]) (np : PySem.W.findIn X.K (.ref CB) "part" = some none)
    (TB : TabB X.base X.mg c P) (hcode : X.env.code = .ref c) (hmT : (P, X.env.qual ++ "<lambda>") ∈ T) (hu : ∀ p ∈ T, p.1 = P → p.2 = X.env.qual ++ "<lambda>") (hr : Room (k + 2) X.A) (L : LamW X.N X.env.scope scope ow)
    (hd0 : params.defaults = [] ∨ ∃ j p0, params.defaults = [.Constant (.int i) j p0]) (hk0 : params.kw_defaults = []) (B : LamBinds params body scope i)
    (hbody : ∀ (A : Around) (outer : List Env) (s : Shared) (H : Hp) (E : XK) (f c' : Addr), Room k (A.deeper (lamEnv X scope s.heap.objs.size f c')) → PE (lamCx X A outer s H E scope f c') body (t E)) :
    PE X (.Call (.Name "_law_heard" p) [.Lambda params body scope lpos] [] pos) (fun σ H Q => tLam T (TTr CB) t (L2.wipe σ ow) H Q) := by
  obtain ⟨oc, od, kV, doc, pm, an, cdv, ct, osl, rfl, lk, hcg⟩ := D.F.ex
  exact pe_heardW (Ng := ["ask", "caught", "error", "kinds", "words", "word", "is_so"]) hg D.m D.F.kp lk hcg D.b sc__law_heard rfl (.inl rfl) (heard_gives rfl rfl TH E_BadRoom np) TB hcode hmT hu hr L hd0 hk0 B hbody
end
theorem hear_room {K : PySem.W.Frag} {T : List (Addr × Str)} {CB : Addr} {σ : L2.St} {H : Hp} {Q : VK} {i : Nat} {v : V} {d : D} {Cn : Con} (hC : ∀ (t : Nat) (Pq : Nat → D → Prop) (pe : Nat → Exn → Prop), (∀ t', pe t' (exP CB "room")) → Cn none t [d] Pq pe) (ev : σ[i]? = some (some v)) (r : Rp K H v d) (tb : Tabs T H)
    (q : ∀ p H', ExtN H H' → Tabs T H' → H' p = some (.tup [.str "room", .str "room"]) → Q (.ref p) H') : tLam T (TTr CB) (fun E => tCall (spV K Cn) [] E (tCons (tVar i) tNil)) σ H Q := by
  refine ⟨tb, fun H1 e1 t1 Q' hq => ?_⟩
  refine ⟨v, ev, ?_⟩
  show spV K Cn ([v] ++ []) H1 Q' _
  rw [List.append_nil]
  have dn : Done ⟨K, H1, H1, none, []⟩ H1 H1 0 := ⟨Gro.refl _ _ _, fun _ _ h => h, fun b hb => (by cases hb), fun _ _ _ e => (by cases e), fun _ _ _ e => (by cases e)⟩
  refine ⟨⟨K, H1, H1, none, []⟩, 0, [d], fun _ _ => False, fun t e => e = exP CB "room", rfl, rfl, rfl, dn, .cons (r.ext e1) .nil, hC _ _ _ (fun _ => rfl), fun _ _ _ _ _ _ _ p => p.elim, ?_⟩
  rintro cls dd H2 ⟨F', t', a, gs, e, d2, rfl, rfl, e3, e4, rfl⟩
  have s12 : Same H1 H2 := fun b o h => (of_hid (d2.gr.sH b o (hid_of (by simp) h))).2
  have eg : gs = ([(("part" : Str), V.str "room")] : List (Str × V)) := by
    have e4 : RpF K H2 gs ([(("part" : Str), D.str "room")] : List (Str × D)) := e4
    cases e4 with
    | cons h t =>
      cases t
      cases h
      rfl
  subst eg
  refine ⟨"room", a, rfl, rfl, e3, fun p H3 s3 np ep => q p H3 ?_ (t1.ext (s12.trans s3)) ep⟩
  exact fun b o h n => s3 _ _ (s12 _ _ (e1 b o h n))
end K06

set_option linter.all false
set_option maxRecDepth 100000
set_option maxHeartbeats 8000000
namespace K06
open PySem PySem.Spec PyProof.Rows L2 Nv VL LamX
def Turn6 (a L l : Addr) (cs : List Int) (TT : List (Addr × Str)) (i : Nat) (σ : L2.St) (H : Hp) : Prop :=
  ∃ v2 v3 v4 v5 v6 v7 v8 v9 v10 v11 v12 v13 : Option V, σ = [some (.ref a), some (.ref L), v2, v3, v4, v5, v6, v7, v8, v9, v10, v11, v12, v13] ∧ Lan H L l cs (60 * i) ∧ Tabs TT H
def spLaw (K : PySem.W.Frag) (TT : List (Addr × Str)) : Sp := fun vs H Q _ => ∃ (a : Addr) (ns : List Int), vs = [.ref a] ∧ SqL K H a (ns.map V.int) ∧ ns.length ≤ 63 ∧ Tabs TT H ∧ ∀ H', Q (.bl true) H'
theorem lan_ext {H H' : Hp} {L l : Addr} {cs : List Int} {t : Nat} (a : Lan H L l cs t) (e : ExtN H H') : Lan H' L l cs t := by
  obtain ⟨u, r, h1, h2, h3⟩ := a.ex
  exact ⟨u, r, e _ _ h1 (fun ps z => nomatch z), e _ _ h2 (fun ps z => nomatch z), h3⟩
theorem len14 {σ : L2.St} (h : σ.length = 14) : ∃ v0 v1 v2 v3 v4 v5 v6 v7 v8 v9 v10 v11 v12 v13, σ = [v0, v1, v2, v3, v4, v5, v6, v7, v8, v9, v10, v11, v12, v13] := by
  match σ, h with
  | [v0, v1, v2, v3, v4, v5, v6, v7, v8, v9, v10, v11, v12, v13], _ => exact ⟨_, _, _, _, _, _, _, _, _, _, _, _, _, _, rfl⟩
abbrev s_law : Stmt := topS 46
theorem sc_law : FnScope ["script", "mason", "turn", "squares", "shut", "fine", "room", "walls", "one", "other", "due", "ends", "side", "none"] ["script"] (defScope s_law) := ⟨rfl, rfl, rfl, by decide +kernel, rfl, by decide +kernel, by decide +kernel⟩
section
variable {P : Program} {w : World} {K : PySem.W.Frag} {mg : Str → Option Value} {base : Heap} {tk : Tok} {aST aEN CR CB CF CM fB fF : Addr} {dB dF : FuncData}
theorem ok_law {f fM fD fP fE fI fG fS fL fH fN fO fW fRI fRS aE c PT : Addr} {fd dM dD dP dE dI dG dS dL dH dN dO dW dRI dRS : FuncData} {TT : List (Addr × Str)} {tk1 : Tok} (F : Fun K "law" "law" s_law f fd)
    (D__law_mason : Df K mg "_law_mason" s__law_mason ["script"] fM dM) (D__law_trowel : Df K mg "_law_trowel" s__law_trowel ["mason", "many"] fD dD) (D__law_brick : Df K mg "_law_brick" s__law_brick ["mason", "some"] fP dP) (D__law_beside : Df K mg "_law_beside" s__law_beside ["square"] fE dE) (D__law_side : Df K mg "_law_side" s__law_side ["one", "other"] fI dI)
    (D__law_hangs : Df K mg "_law_hangs" s__law_hangs ["squares", "shut"] fG dG) (D__law_sides : Df K mg "_law_sides" s__law_sides ["squares"] fS dS) (D__law_room : Df K mg "_law_room" s__law_room ["mason", "most"] fL dL) (D__law_heard : Df K mg "_law_heard" s__law_heard ["ask"] fH dH) (D__law_ends : Df K mg "_law_ends" s__law_ends ["one", "other"] fN dN)
    (D_open_sides : Df K mg "open_sides" s_open_sides ["room"] fO dO) (D_walls_of : Df K mg "walls_of" s_walls_of ["room"] fW dW) (G_open_sides : FnOk P w K mg base (L2.CX P w) 4 fO dO ["room"] (spV K (C_os CR CB))) (G_walls_of : FnOk P w K mg base (L2.CX P w) 4 fW dW ["room"] (spV K (C_wo CR CB)))
    (KB_open_sides_room : KBn K dO ["room"] 0 ["room"] kwO kwO) (KB_walls_of_room : KBn K dW ["room"] 0 ["room"] kwO kwO)
    (M_Room : Mk K CR fRI) (G_Room_init : FnOk P w K mg base (L2.CX P w) 5 fRI dRI ["self", "squares", "shut", "fine"] (spI K CR (C_ri CR CB CF))) (B_Room_3 : Binds K dRI ["self", "squares", "shut", "fine"] []) (B_Room_1 : Binds K dRI ["self", "squares", "shut", "fine"] [.ref aE, .int 1 tk1]) (hE : ∀ F, Rp K F (.ref aE) (.tup []))
    (G_Room_str : FnOk P w K mg base (L2.CX P w) 1 fRS dRS ["self"] (spV K (C_str CR))) (B_Room_str : Binds K dRS ["self"] []) (st_Room : StrC K CR fRS)
    (T : Txt2 K mg tk aST aEN CR CB CF fB fF dB dF) (TH : TxtH K mg CB CM) (hc : fd.code = .ref c) (TB : TabB base mg c PT)
    (hmT : (PT, (("law" : Str) ++ ".<locals>.") ++ "<lambda>") ∈ TT) (hu : ∀ p ∈ TT, p.1 = PT → p.2 = (("law" : Str) ++ ".<locals>.") ++ "<lambda>") : FnG P w K mg base 8 f fd ["script"] (spLaw K TT) := by
  have G__law_mason : FnOk P w K mg base CX0 1 fM dM ["script"] (spLantern K) := ok_script D__law_mason.F T
  have G__law_brick := ok__law_brick (P := P) (w := w) (base := base) D__law_trowel D__law_brick.F T
  have G__law_beside := ok__law_beside (P := P) (w := w) (base := base) D__law_beside.F T
  have G__law_side := ok__law_side (P := P) (w := w) (base := base) D__law_side.F T
  have G__law_sides := ok__law_sides (P := P) (w := w) (base := base) D__law_beside D__law_sides.F T
  have G__law_ends := ok__law_ends (P := P) (w := w) (base := base) D__law_ends.F T
  have G__law_room := ok__law_room (P := P) (w := w) (base := base) D__law_trowel D__law_brick D__law_beside D__law_side D__law_hangs D__law_sides D__law_room.F T
  have V_Room_3 : Vals [] ([] : List Value) := .nil
  have hd_Room_3 : ∀ F, Rps K F [] ([] : List D) := fun _ => .nil
  have V_Room_1 : Vals [V.ref aE, .int 1] [.ref aE, .int 1 tk1] := .cons rfl (.cons ⟨_, rfl⟩ .nil)
  have hd_Room_1 : ∀ F, Rps K F [V.ref aE, .int 1] [D.tup [], .int 1] := fun F => .cons (hE F) (.cons (.int 1) .nil)
  refine FnG.ofC F hc sc_law (fun vs H Q E h => ?_) (fun A outer s H vs Q E hG hr h => ?_)
  · obtain ⟨a, ns, rfl, _⟩ := h
    rfl
  · obtain ⟨a, ns, rfl, hS, hlen, tb, q⟩ := h
    have hU : (A.deeper (envOfC "law" (defScope s_law) s.heap.objs.size f (.ref c))).units + 70 < cLine := by have := hr.un; omega
    refine ⟨_, (pss_cons (Nv.ps_setN (i := 1) sc_law.nd rfl (by first | exact Or.inl rfl | exact Or.inr rfl) (pe_call G__law_mason (hr.mono (by decide)) (by rfl) D__law_mason.m D__law_mason.F.kp D__law_mason.b .nil pass0 (pa_cons (pv 0) pa_nil)))
(pss_cons (ps_for PassesOwn.never rfl (pi_range1 (by rfl) T.n_range (pa_cons pe_int pa_nil)) (Nv.pg_nameN (i := 2) sc_law.nd rfl (by first | exact Or.inl rfl | exact Or.inr rfl))
(pss_any (K := K) fun c hK => (pss_cons (vs_asg (T := (.tp [(.nm 3), (.nm 4), (.nm 5)])) hK (v_call hK G__law_room (hr.mono (by decide)) (by rfl) D__law_room.m D__law_room.F.kp D__law_room.b (passF fun _ _ z => z) (va_cons (v_var (pv 1)) (va_cons (v_call hK G__law_brick (hr.mono (by decide)) (by rfl) D__law_brick.m D__law_brick.F.kp D__law_brick.b (passF fun _ _ z => z) (va_cons (v_var (pv 1)) (va_cons (ne_ve (vn_lst (va_cons (v_int pe_int) (va_cons (v_int pe_int) (va_cons (v_int pe_int) (va_cons (v_int pe_int) va_nil)))))) va_nil))) va_nil))) (pg_sq (by rfl) (pgs_cons (pg_name (i := 3) sc_law.nd rfl (by first | exact Or.inl rfl | exact Or.inr rfl)) (pgs_cons (pg_name (i := 4) sc_law.nd rfl (by first | exact Or.inl rfl | exact Or.inr rfl)) (pgs_cons (pg_name (i := 5) sc_law.nd rfl (by first | exact Or.inl rfl | exact Or.inr rfl)) pgs_nil))))) (
pss_cons (vs_parFO (i := 6) (j := 7) (by rfl) sc_law.nd rfl rfl (by decide) rfl rfl (v_make hK M_Room G_Room_init (hr.mono (by decide)) (by rfl) T.g_Room B_Room_3 V_Room_3 (hd_Room_3) (passF fun _ _ z => z) (va_cons (v_var (pv 3)) (va_cons (v_var (pv 4)) (va_cons (v_var (pv 5)) va_nil)))) (vn_lst va_nil) (by rfl)) (
pss_cons (vs_for (T := (.nm 8)) hK PassesOwn.never rfl (vi_var (i := 3) hK (pv 3)) (pg_name (i := 8) sc_law.nd rfl (by first | exact Or.inl rfl | exact Or.inr rfl))
(vs_one (vs_ext (i := 7) hK (pv 7) (ne_ve (vn_lc hK (by rfl) sc_law.nd (T := (.nm 9)) (own := [(("other" : Str), 9)]) (by decide) (vi_row hK (v_call hK G__law_beside (hr.mono (by decide)) (by rfl) D__law_beside.m D__law_beside.F.kp D__law_beside.b (passF fun _ _ z => z) (va_cons (v_var (pv 8)) va_nil))) (blkOk_by (N := ["script", "mason", "turn", "squares", "shut", "fine", "room", "walls", "one", "other", "due", "ends", "side", "none"]) (sc := defScope s_law) (by decide +kernel)) (fun _ _ _ _ _ => (pg_name (i := 9) sc_law.nd rfl (by first | exact Or.inl rfl | exact Or.inr rfl))) (fun _ _ _ _ _ => (vts_one (PW.pt (vt_or (vt_cmp (o_nin hK hr.units) w_in (v_var (pv 9)) (v_var (pv 3)) (by rfl)) (vt_or1 (vt_cmp (o_in hK hr.units) w_in (v_call hK G__law_side (hr.mono (by decide)) (by rfl) D__law_side.m D__law_side.F.kp D__law_side.b (passF fun _ _ z => z) (va_cons (v_var (pv 8)) (va_cons (v_var (pv 9)) va_nil))) (v_var (pv 4)) (by rfl))))))) (fun _ _ _ _ _ => (v_call hK G__law_ends (hr.mono (by decide)) (by rfl) D__law_ends.m D__law_ends.F.kp D__law_ends.b (passF fun _ _ z => z) (va_cons (v_var (pv 8)) (va_cons (v_var (pv 9)) va_nil))))))))) (
pss_cons (vs_frz1 7 (vs_par (i := 10) (j := 11) (by rfl) sc_law.nd rfl rfl (by decide) rfl rfl (v_callTy (b_tup hK) c_tup (by rfl) T.n_tuple (by decide +kernel) (va_cons (ne_ve (vn_lc hK (by rfl) sc_law.nd (T := (.nm 12)) (own := [(("side" : Str), 12)]) (by decide) (vi_row hK (v_call hK G__law_sides (hr.mono (by decide)) (by rfl) D__law_sides.m D__law_sides.F.kp D__law_sides.b (passF fun _ _ z => z) (va_cons (v_var (pv 3)) va_nil))) (blkOk_by (N := ["script", "mason", "turn", "squares", "shut", "fine", "room", "walls", "one", "other", "due", "ends", "side", "none"]) (sc := defScope s_law) (by decide +kernel)) (fun _ _ _ _ _ => (pg_name (i := 12) sc_law.nd rfl (by first | exact Or.inl rfl | exact Or.inr rfl))) (fun _ _ _ _ _ => (vts_one (vt_cmp (o_nin hK hr.units) w_in (v_var (pv 12)) (v_var (pv 4)) (by rfl)))) (fun _ _ _ _ _ => (v_var (pv 12))))) va_nil)) (v_callTy (b_tup hK) c_tup (by rfl) T.n_tuple (by decide +kernel) (va_cons (ne_ve (vn_sortSet (by rfl) hr.units hK (by rfl) T.n_sorted (by rfl) T.n_set (v_var (pv 7)))) va_nil)) (by rfl))) (
pss_cons (vs_if (PW.pt (vt_or (vt_cmp op_ne w_neS (v_callB (b_repr hK hG hU) c_repr (by rfl) T.n_repr (by decide +kernel) (va_cons (ne_ve (vn_lst (va_cons (v_call hK G_open_sides (hr.mono (by decide)) (by rfl) D_open_sides.m D_open_sides.F.kp D_open_sides.b (passF fun _ _ z => z) (va_cons (v_var (pv 6)) va_nil)) (va_cons (v_kw0 (gD := id) hK G_open_sides (hr.mono (by decide)) (by rfl) D_open_sides.m D_open_sides.F.kp KB_open_sides_room (passF fun _ _ z => z) (vk_cons (v_var (pv 6)) vk_nil) kwO_rel) va_nil)))) va_nil)) (v_callB (b_repr hK hG hU) c_repr (by rfl) T.n_repr (by decide +kernel) (va_cons (ne_ve (vn_lst (va_cons (v_var (pv 10)) (va_cons (v_var (pv 10)) va_nil)))) va_nil)) (nomark _)) (vt_or1 (vt_cmp op_ne w_neS (v_callB (b_repr hK hG hU) c_repr (by rfl) T.n_repr (by decide +kernel) (va_cons (ne_ve (vn_lst (va_cons (v_call hK G_walls_of (hr.mono (by decide)) (by rfl) D_walls_of.m D_walls_of.F.kp D_walls_of.b (passF fun _ _ z => z) (va_cons (v_var (pv 6)) va_nil)) (va_cons (v_kw0 (gD := id) hK G_walls_of (hr.mono (by decide)) (by rfl) D_walls_of.m D_walls_of.F.kp KB_walls_of_room (passF fun _ _ z => z) (vk_cons (v_var (pv 6)) vk_nil) kwO_rel) va_nil)))) va_nil)) (v_callB (b_repr hK hG hU) c_repr (by rfl) T.n_repr (by decide +kernel) (va_cons (ne_ve (vn_lst (va_cons (v_var (pv 11)) (va_cons (v_var (pv 11)) va_nil)))) va_nil)) (nomark _)))))
(vs_one (vs_ret (v_bl pe_bl)))
vs_nil) (
pss_cons (vs_if (vt_cmp (o_ne hK hr.units) w_ne (v_op op_mul w_mul (v_int pe_int) (v_callB (b_len hK) c_len (by rfl) T.n_len (by decide +kernel) (va_cons (v_var (pv 3)) va_nil))) (v_op op_add w_add (v_op op_add w_add (v_op op_mul w_mul (v_int pe_int) (v_callB (b_len hK) c_len (by rfl) T.n_len (by decide +kernel) (va_cons (v_var (pv 10)) va_nil))) (v_callB (b_len hK) c_len (by rfl) T.n_len (by decide +kernel) (va_cons (v_var (pv 11)) va_nil))) (v_callB (b_len hK) c_len (by rfl) T.n_len (by decide +kernel) (va_cons (v_var (pv 4)) va_nil))) (nomark _))
(vs_one (vs_ret (v_bl pe_bl)))
vs_nil) (
pss_cons (vs_set (i := 13) sc_law.nd rfl (by first | exact Or.inl rfl | exact Or.inr rfl) (v_call hK G__law_brick (hr.mono (by decide)) (by rfl) D__law_brick.m D__law_brick.F.kp D__law_brick.b (passF fun _ _ z => z) (va_cons (v_var (pv 1)) (va_cons (ne_ve (vn_lst (va_cons (v_non pe_non) (va_cons (v_int pe_int) (va_cons (v_var (pv 3)) (va_cons (v_callTy (b_strO hK st_Room G_Room_str B_Room_str (passF fun _ _ z => z) (hr.mono (by decide))) c_strO (by rfl) T.n_str (by decide +kernel) (va_cons (v_var (pv 6)) va_nil)) (va_cons (v_tup va_nil) (va_cons (v_bl pe_bl) va_nil)))))))) va_nil)))) (pss_one (ps_if (pt_cmpR (op_neD hr.units) (Nv.pe_lstN (pa_cons (heard06 (ow := []) (k := 4) (i := 0) D__law_heard (by rfl) TH T.e_BadRoom T.np_BadRoom TB rfl hmT hu (hr.mono (by decide)) (lamW_by (ow := []) (N := ["script", "mason", "turn", "squares", "shut", "fine", "room", "walls", "one", "other", "due", "ends", "side", "none"]) (sc := defScope s_law) (by decide +kernel)) (.inl rfl) rfl (lamB0 rfl fun _ _ _ _ _ _ => rfl) (fun A outer s H E f c hr2 => (pe_call G_open_sides (hr2.mono (by decide)) (by rfl) D_open_sides.m D_open_sides.F.kp D_open_sides.b .nil (passes_call (takes_of rfl rfl rfl rfl) fun _ _ _ _ h => h) (pa_cons (pv 13) pa_nil)))) (pa_cons (heard06 (ow := [8]) (k := 4) (i := 0) D__law_heard (by rfl) TH T.e_BadRoom T.np_BadRoom TB rfl hmT hu (hr.mono (by decide)) (lamW_by (ow := [8]) (N := ["script", "mason", "turn", "squares", "shut", "fine", "room", "walls", "one", "other", "due", "ends", "side", "none"]) (sc := defScope s_law) (by decide +kernel)) (.inr ⟨_, _, rfl⟩) rfl (lamB1 (fun z => by cases z) rfl fun _ _ _ _ _ _ _ _ => ⟨_, rfl, rfl⟩) (fun A outer s H E f c hr2 => (pe_call G_walls_of (hr2.mono (by decide)) (by rfl) D_walls_of.m D_walls_of.F.kp D_walls_of.b .nil (passes_call (takes_of rfl rfl rfl rfl) fun _ _ _ _ h => h) (pa_cons (pv 13) pa_nil)))) pa_nil))) (pe_op op_rep (Nv.pe_lstN (pa_cons (Nv.pe_tupN (pa_cons pe_str (pa_cons pe_str pa_nil))) pa_nil)) pe_int) (nomark _))
(pss_one (ps_ret pe_bl))
pss_nil)))))))))))
(pss_one (ps_any (K := K) fun c hK => (vs_ret (v_and (v_cmp (o_eq hK hr.units) w_eq (v_call hK G_open_sides (hr.mono (by decide)) (by rfl) D_open_sides.m D_open_sides.F.kp D_open_sides.b (passF fun _ _ z => z) (va_cons (v_make hK M_Room G_Room_init (hr.mono (by decide)) (by rfl) T.g_Room B_Room_1 V_Room_1 (hd_Room_1) (passF fun _ _ z => z) (va_cons (ne_ve (vn_lst (va_cons (v_tup (va_cons (v_int pe_int) (va_cons (v_int pe_int) va_nil))) va_nil))) va_nil)) va_nil)) (v_tup va_nil) (nomark _)) (v_one (v_cmp (o_eq hK hr.units) w_eq (v_callB (b_len hK) c_len (by rfl) T.n_len (by decide +kernel) (va_cons (v_call hK G_walls_of (hr.mono (by decide)) (by rfl) D_walls_of.m D_walls_of.F.kp D_walls_of.b (passF fun _ _ z => z) (va_cons (v_make hK M_Room G_Room_init (hr.mono (by decide)) (by rfl) T.g_Room B_Room_1 V_Room_1 (hd_Room_1) (passF fun _ _ z => z) (va_cons (ne_ve (vn_lst (va_cons (v_tup (va_cons (v_int pe_int) (va_cons (v_int pe_int) va_nil))) va_nil))) va_nil)) va_nil)) va_nil)) (v_int pe_int) (nomark _))))))))), ?_⟩
    refine ⟨_, rfl, a, ns, rfl, hS, hlen, fun H0 L l cs s0 nL nl lan0 => fun σ0 c0 => ?_⟩
    obtain rfl : σ0 = [some (.ref a), some (.ref L), none, none, none, none, none, none, none, none, none, none, none, none] := c0
    refine ⟨3, rfl, by decide, by decide, for_range (lo := 0) (n := 3) (fun i σ H' => Turn6 a L l cs TT i σ H') ⟨_, _, _, _, _, _, _, _, _, _, _, _, rfl, lan0, tb.ext s0⟩ ?_ ?_⟩
    · rintro i σ H1 hi ⟨v2, v3, v4, v5, v6, v7, v8, v9, v10, v11, v12, v13, rfl, lan1, tb1⟩
      refine fun σ1 c1 => ?_
      obtain rfl : σ1 = [some (.ref a), some (.ref L), some (.int (0 + (i : Int))), v3, v4, v5, v6, v7, v8, v9, v10, v11, v12, v13] := c1
      refine ⟨turnC K H1 L l cs, rfl, ?_⟩
      have ft : Fits (turnC K H1 L l cs) (fun _ => none) [.fr (.adr a), .fr (.adr L), .un, .un, .un, .un, .un, .un, .un, .un, .un, .un, .un, .un] [some (.ref a), some (.ref L), some (.int (0 + (i : Int))), v3, v4, v5, v6, v7, v8, v9, v10, v11, v12, v13] H1 (60 * i) := turn_fits lan1 rfl fun j s x e1 e2 => by
        match j with
        | 0 => cases e1; cases e2; exact .inr ⟨_, rfl, rfl⟩
        | 1 => cases e1; cases e2; exact .inr ⟨_, rfl, rfl⟩
        | 2 | 3 | 4 | 5 | 6 | 7 | 8 | 9 | 10 | 11 | 12 | 13 => cases e1; exact .inl rfl
        | j + 14 => simp at e1
      show TSq (turnC K H1 L l cs) [_, _, _, _, _, _, _] _ _ _ _
      refine seqOut (G := fun _ => none) (fin := fun t δ => t ≤ 60 * (i + 1) ∧ δ[0]? = some (.fr (.adr a)) ∧ δ[1]? = some (.fr (.adr L)) ∧ δ.length = 14 ∧ ∃ d, δ[13]? = some (.fr d) ∧ d.ok = true) (ret := fun _ _ => False) _ ft (Same.refl _) ?_ ?_ (fun _ _ _ _ _ _ _ _ z => z.elim)
      · simp only [chain_cons, turnC_m, uSeq, later_cons, uNext, uRet, uRetN, uIf, uSet, uSetO, uAsg, uFrz, uFrz1, frzAll, frz1, retE, uVar, uK, u2, wI, cYes, wEq, wIsN, wIx, wMem, uAnd, uOr, uNot, uB, uTAnd, uTOr, uTNot, uRowT, uIte, uChain, uNil, uCons, uLst, uTup, uFld, uSelf, uC, wLen, wTupOf, wI1, wI2, wInt, wBls, wInts, wIsi1, wIsiC, uIsRow, uCall, uCallN, uT, uTs, rowD_lst, rowD_tup, rowD_int, isBk, uRaise, uPar, uParOO, uApp, uExt, uPop, uAug, uNeg, uTIx, wCat, frs0, List.map_cons, List.map_nil, List.getElem?_cons_zero, List.getElem?_cons_succ, List.set_cons_zero, List.set_cons_succ, List.length_cons, List.length_nil, List.nil_append, List.cons_append, Nat.reduceAdd, Nat.reduceSub, List.replicate_zero, List.replicate_succ, isNonD, isFlat, xor_f, xor_t, Bool.true_or, Bool.false_or, Bool.and_true, Bool.true_and, Bool.or_true, Bool.or_false, true_and, and_true, forall_const, true_implies, false_implies, implies_true, Bool.false_eq_true, reduceCtorEq, Option.some.injEq, exists_eq_left, exists_eq_left', kit_tab, exists_and_left, Option.isSome_some, Option.isSome_none, con1, con2, con3, con4, con1E, con2E, con3E, endE, CisI, CisW, CisR, CisP, CisS, atI0, atI1, uSortL, uSortSet, uLenSet, atI2, atI3, uiRow, uiVar, uiRng1, uiRng2, uLc, noOi_fr, noOi_un, noOi_ow, uIxO, List.all_cons, List.all_nil, wipeD, uExpr, uAttr, putD, uMake, uiEnum, initE, iNx, Sl.oi.injEq, and_imp, forall_eq', forall_apply_eq_imp_iff, uM0, uM1, uM2, uMp1, uMp2, eqv_lnil, shp_lnil, shp_ints, retM, uSl, uoN, uoS, wRep, wLtP, uJoin, wRepr, uKwC, wStrO, isSeqD, rowD_P, rowD_S, rowD_Sq, rowD_Sh, tup_P, tup_S, tup_S', lit_sz, shpP60, shpS60, shpsP59, shpsS59, any_P, any_S, any_I, all_P, all_S, tupK_P, tupK_S, alike_two, alike_P, alike_S, optD, shp_int, shp_non, shp_bl, eqv_int, eqv_bl, decide_eq_true_eq, decide_eq_false_iff_not, Bool.not_eq_true', Bool.not_eq_false', Bool.not_true, Bool.not_false, Bool.true_eq_false, Bool.false_eq_true, Bool.and_self]
        refine ⟨L, l, cs, _, rfl, rfl, by decide, by decide, by omega, fun d hd => ?_⟩
        have hk : ∃ k : Int, d = .int k ∧ 1 ≤ k ∧ k ≤ 8 := by
          simp only [List.mem_cons, List.not_mem_nil, or_false] at hd
          rcases hd with rfl | rfl | rfl | rfl
          all_goals exact ⟨_, rfl, by decide, by decide⟩
        obtain ⟨k, rfl, k1, k8⟩ := hk
        refine ⟨L, l, cs, k, rfl, rfl, k1, k8, by omega, fun sq sh f gl hf => ?_⟩
        simp only [chain_cons, turnC_m, uParFO, roomL, uSeq, later_cons, uNext, uRet, uRetN, uIf, uSet, uSetO, uAsg, uFrz, uFrz1, frzAll, frz1, retE, uVar, uK, u2, wI, cYes, wEq, wIsN, wIx, wMem, uAnd, uOr, uNot, uB, uTAnd, uTOr, uTNot, uRowT, uIte, uChain, uNil, uCons, uLst, uTup, uFld, uSelf, uC, wLen, wTupOf, wI1, wI2, wInt, wBls, wInts, wIsi1, wIsiC, uIsRow, uCall, uCallN, uT, uTs, rowD_lst, rowD_tup, rowD_int, isBk, uRaise, uPar, uParOO, uApp, uExt, uPop, uAug, uNeg, uTIx, wCat, frs0, List.map_cons, List.map_nil, List.getElem?_cons_zero, List.getElem?_cons_succ, List.set_cons_zero, List.set_cons_succ, List.length_cons, List.length_nil, List.nil_append, List.cons_append, Nat.reduceAdd, Nat.reduceSub, List.replicate_zero, List.replicate_succ, isNonD, isFlat, xor_f, xor_t, Bool.true_or, Bool.false_or, Bool.and_true, Bool.true_and, Bool.or_true, Bool.or_false, true_and, and_true, forall_const, true_implies, false_implies, implies_true, Bool.false_eq_true, reduceCtorEq, Option.some.injEq, exists_eq_left, exists_eq_left', kit_tab, exists_and_left, Option.isSome_some, Option.isSome_none, con1, con2, con3, con4, con1E, con2E, con3E, endE, CisI, CisW, CisR, CisP, CisS, atI0, atI1, uSortL, uSortSet, uLenSet, atI2, atI3, uiRow, uiVar, uiRng1, uiRng2, uLc, noOi_fr, noOi_un, noOi_ow, uIxO, List.all_cons, List.all_nil, wipeD, uExpr, uAttr, putD, uMake, uiEnum, initE, iNx, Sl.oi.injEq, and_imp, forall_eq', forall_apply_eq_imp_iff, uM0, uM1, uM2, uMp1, uMp2, eqv_lnil, shp_lnil, shp_ints, retM, uSl, uoN, uoS, wRep, wLtP, uJoin, wRepr, uKwC, wStrO, isSeqD, rowD_P, rowD_S, rowD_Sq, rowD_Sh, tup_P, tup_S, tup_S', lit_sz, shpP60, shpS60, shpsP59, shpsS59, any_P, any_S, any_I, all_P, all_S, tupK_P, tupK_S, alike_two, alike_P, alike_S, optD, shp_int, shp_non, shp_bl, eqv_int, eqv_bl, decide_eq_true_eq, decide_eq_false_iff_not, Bool.not_eq_true', Bool.not_eq_false', Bool.not_true, Bool.not_false, Bool.true_eq_false, Bool.false_eq_true, Bool.and_self]
        refine ⟨_, _, _, rfl, ok_dSq sq, ok_dSh sh, rfl, fun es he => ?_, ?_⟩
        · cases he
          rw [List.length_map]
          have := gl.s2
          omega
        · rw [gl.room hf]
          simp only [chain_cons, turnC_m, uSeq, later_cons, uNext, uRet, uRetN, uIf, uSet, uSetO, uAsg, uFrz, uFrz1, frzAll, frz1, retE, uVar, uK, u2, wI, cYes, wEq, wIsN, wIx, wMem, uAnd, uOr, uNot, uB, uTAnd, uTOr, uTNot, uRowT, uIte, uChain, uNil, uCons, uLst, uTup, uFld, uSelf, uC, wLen, wTupOf, wI1, wI2, wInt, wBls, wInts, wIsi1, wIsiC, uIsRow, uCall, uCallN, uT, uTs, rowD_lst, rowD_tup, rowD_int, isBk, uRaise, uPar, uParOO, uApp, uExt, uPop, uAug, uNeg, uTIx, wCat, frs0, List.map_cons, List.map_nil, List.getElem?_cons_zero, List.getElem?_cons_succ, List.set_cons_zero, List.set_cons_succ, List.length_cons, List.length_nil, List.nil_append, List.cons_append, Nat.reduceAdd, Nat.reduceSub, List.replicate_zero, List.replicate_succ, isNonD, isFlat, xor_f, xor_t, Bool.true_or, Bool.false_or, Bool.and_true, Bool.true_and, Bool.or_true, Bool.or_false, true_and, and_true, forall_const, true_implies, false_implies, implies_true, Bool.false_eq_true, reduceCtorEq, Option.some.injEq, exists_eq_left, exists_eq_left', kit_tab, exists_and_left, Option.isSome_some, Option.isSome_none, con1, con2, con3, con4, con1E, con2E, con3E, endE, CisI, CisW, CisR, CisP, CisS, atI0, atI1, uSortL, uSortSet, uLenSet, atI2, atI3, uiRow, uiVar, uiRng1, uiRng2, uLc, noOi_fr, noOi_un, noOi_ow, uIxO, List.all_cons, List.all_nil, wipeD, uExpr, uAttr, putD, uMake, uiEnum, initE, iNx, Sl.oi.injEq, and_imp, forall_eq', forall_apply_eq_imp_iff, uM0, uM1, uM2, uMp1, uMp2, eqv_lnil, shp_lnil, shp_ints, retM, uSl, uoN, uoS, wRep, wLtP, uJoin, wRepr, uKwC, wStrO, isSeqD, rowD_P, rowD_S, rowD_Sq, rowD_Sh, tup_P, tup_S, tup_S', lit_sz, shpP60, shpS60, shpsP59, shpsS59, any_P, any_S, any_I, all_P, all_S, tupK_P, tupK_S, alike_two, alike_P, alike_S, optD, shp_int, shp_non, shp_bl, eqv_int, eqv_bl, decide_eq_true_eq, decide_eq_false_iff_not, Bool.not_eq_true', Bool.not_eq_false', Bool.not_true, Bool.not_false, Bool.true_eq_false, Bool.false_eq_true, Bool.and_self]
          simp only [uFor, uSeq, later_cons, uNext, uRet, uRetN, uIf, uSet, uSetO, uAsg, uFrz, uFrz1, frzAll, frz1, retE, uVar, uK, u2, wI, cYes, wEq, wIsN, wIx, wMem, uAnd, uOr, uNot, uB, uTAnd, uTOr, uTNot, uRowT, uIte, uChain, uNil, uCons, uLst, uTup, uFld, uSelf, uC, wLen, wTupOf, wI1, wI2, wInt, wBls, wInts, wIsi1, wIsiC, uIsRow, uCall, uCallN, uT, uTs, rowD_lst, rowD_tup, rowD_int, isBk, uRaise, uPar, uParOO, uApp, uExt, uPop, uAug, uNeg, uTIx, wCat, frs0, List.map_cons, List.map_nil, List.getElem?_cons_zero, List.getElem?_cons_succ, List.set_cons_zero, List.set_cons_succ, List.length_cons, List.length_nil, List.nil_append, List.cons_append, Nat.reduceAdd, Nat.reduceSub, List.replicate_zero, List.replicate_succ, isNonD, isFlat, xor_f, xor_t, Bool.true_or, Bool.false_or, Bool.and_true, Bool.true_and, Bool.or_true, Bool.or_false, true_and, and_true, forall_const, true_implies, false_implies, implies_true, Bool.false_eq_true, reduceCtorEq, Option.some.injEq, exists_eq_left, exists_eq_left', kit_tab, exists_and_left, Option.isSome_some, Option.isSome_none, con1, con2, con3, con4, con1E, con2E, con3E, endE, CisI, CisW, CisR, CisP, CisS, atI0, atI1, uSortL, uSortSet, uLenSet, atI2, atI3, uiRow, uiVar, uiRng1, uiRng2, uLc, noOi_fr, noOi_un, noOi_ow, uIxO, List.all_cons, List.all_nil, wipeD, uExpr, uAttr, putD, uMake, uiEnum, initE, iNx, Sl.oi.injEq, and_imp, forall_eq', forall_apply_eq_imp_iff, uM0, uM1, uM2, uMp1, uMp2, eqv_lnil, shp_lnil, shp_ints, retM, uSl, uoN, uoS, wRep, wLtP, uJoin, wRepr, uKwC, wStrO, isSeqD, rowD_P, rowD_S, rowD_Sq, rowD_Sh, tup_P, tup_S, tup_S', lit_sz, shpP60, shpS60, shpsP59, shpsS59, any_P, any_S, any_I, all_P, all_S, tupK_P, tupK_S, alike_two, alike_P, alike_S, optD, shp_int, shp_non, shp_bl, eqv_int, eqv_bl, decide_eq_true_eq, decide_eq_false_iff_not, Bool.not_eq_true', Bool.not_eq_false', Bool.not_true, Bool.not_false, Bool.true_eq_false, Bool.false_eq_true, Bool.and_self]
          have l8 := gl.l8
          refine forG_i (fun j t' δ => t' = 60 * i + 1 + 40 ∧ ∃ x8 x9, δ = [.fr (.adr a), .fr (.adr L), .un, .fr (.lst (sq.map encP)), .fr (.lst (sh.map encS)), .fr (.int f), .fr (roomD CR sq sh (.int f)), .ow (((sq.take j).flatMap (wallsAt sq sh)).map encS), x8, x9, .un, .un, .un, .un] ∧ noOi (some x9) = true) ⟨rfl, .un, .un, rfl, rfl⟩ ?_ ?_
          · rintro j d t' δ ej ⟨rfl, x8, x9, rfl, no9⟩ N hN
            rw [List.getElem?_map] at ej
            cases ep : sq[j]? with
            | none => rw [ep] at ej; cases ej
            | some p =>
              rw [ep] at ej
              cases ej
              simp only [uSeq, later_cons, uNext, uRet, uRetN, uIf, uSet, uSetO, uAsg, uFrz, uFrz1, frzAll, frz1, retE, uVar, uK, u2, wI, cYes, wEq, wIsN, wIx, wMem, uAnd, uOr, uNot, uB, uTAnd, uTOr, uTNot, uRowT, uIte, uChain, uNil, uCons, uLst, uTup, uFld, uSelf, uC, wLen, wTupOf, wI1, wI2, wInt, wBls, wInts, wIsi1, wIsiC, uIsRow, uCall, uCallN, uT, uTs, rowD_lst, rowD_tup, rowD_int, isBk, uRaise, uPar, uParOO, uApp, uExt, uPop, uAug, uNeg, uTIx, wCat, frs0, List.map_cons, List.map_nil, List.getElem?_cons_zero, List.getElem?_cons_succ, List.set_cons_zero, List.set_cons_succ, List.length_cons, List.length_nil, List.nil_append, List.cons_append, Nat.reduceAdd, Nat.reduceSub, List.replicate_zero, List.replicate_succ, isNonD, isFlat, xor_f, xor_t, Bool.true_or, Bool.false_or, Bool.and_true, Bool.true_and, Bool.or_true, Bool.or_false, true_and, and_true, forall_const, true_implies, false_implies, implies_true, Bool.false_eq_true, reduceCtorEq, Option.some.injEq, exists_eq_left, exists_eq_left', kit_tab, exists_and_left, Option.isSome_some, Option.isSome_none, con1, con2, con3, con4, con1E, con2E, con3E, endE, CisI, CisW, CisR, CisP, CisS, atI0, atI1, uSortL, uSortSet, uLenSet, atI2, atI3, uiRow, uiVar, uiRng1, uiRng2, uLc, noOi_fr, noOi_un, noOi_ow, uIxO, List.all_cons, List.all_nil, wipeD, uExpr, uAttr, putD, uMake, uiEnum, initE, iNx, Sl.oi.injEq, and_imp, forall_eq', forall_apply_eq_imp_iff, uM0, uM1, uM2, uMp1, uMp2, eqv_lnil, shp_lnil, shp_ints, retM, uSl, uoN, uoS, wRep, wLtP, uJoin, wRepr, uKwC, wStrO, isSeqD, rowD_P, rowD_S, rowD_Sq, rowD_Sh, tup_P, tup_S, tup_S', lit_sz, shpP60, shpS60, shpsP59, shpsS59, any_P, any_S, any_I, all_P, all_S, tupK_P, tupK_S, alike_two, alike_P, alike_S, optD, shp_int, shp_non, shp_bl, eqv_int, eqv_bl, decide_eq_true_eq, decide_eq_false_iff_not, Bool.not_eq_true', Bool.not_eq_false', Bool.not_true, Bool.not_false, Bool.true_eq_false, Bool.false_eq_true, Bool.and_self, no9]
              refine ⟨p, rfl, ?_⟩
              simp only [uSeq, later_cons, uNext, uRet, uRetN, uIf, uSet, uSetO, uAsg, uFrz, uFrz1, frzAll, frz1, retE, uVar, uK, u2, wI, cYes, wEq, wIsN, wIx, wMem, uAnd, uOr, uNot, uB, uTAnd, uTOr, uTNot, uRowT, uIte, uChain, uNil, uCons, uLst, uTup, uFld, uSelf, uC, wLen, wTupOf, wI1, wI2, wInt, wBls, wInts, wIsi1, wIsiC, uIsRow, uCall, uCallN, uT, uTs, rowD_lst, rowD_tup, rowD_int, isBk, uRaise, uPar, uParOO, uApp, uExt, uPop, uAug, uNeg, uTIx, wCat, frs0, List.map_cons, List.map_nil, List.getElem?_cons_zero, List.getElem?_cons_succ, List.set_cons_zero, List.set_cons_succ, List.length_cons, List.length_nil, List.nil_append, List.cons_append, Nat.reduceAdd, Nat.reduceSub, List.replicate_zero, List.replicate_succ, isNonD, isFlat, xor_f, xor_t, Bool.true_or, Bool.false_or, Bool.and_true, Bool.true_and, Bool.or_true, Bool.or_false, true_and, and_true, forall_const, true_implies, false_implies, implies_true, Bool.false_eq_true, reduceCtorEq, Option.some.injEq, exists_eq_left, exists_eq_left', kit_tab, exists_and_left, Option.isSome_some, Option.isSome_none, con1, con2, con3, con4, con1E, con2E, con3E, endE, CisI, CisW, CisR, CisP, CisS, atI0, atI1, uSortL, uSortSet, uLenSet, atI2, atI3, uiRow, uiVar, uiRng1, uiRng2, uLc, noOi_fr, noOi_un, noOi_ow, uIxO, List.all_cons, List.all_nil, wipeD, uExpr, uAttr, putD, uMake, uiEnum, initE, iNx, Sl.oi.injEq, and_imp, forall_eq', forall_apply_eq_imp_iff, uM0, uM1, uM2, uMp1, uMp2, eqv_lnil, shp_lnil, shp_ints, retM, uSl, uoN, uoS, wRep, wLtP, uJoin, wRepr, uKwC, wStrO, isSeqD, rowD_P, rowD_S, rowD_Sq, rowD_Sh, tup_P, tup_S, tup_S', lit_sz, shpP60, shpS60, shpsP59, shpsS59, any_P, any_S, any_I, all_P, all_S, tupK_P, tupK_S, alike_two, alike_P, alike_S, optD, shp_int, shp_non, shp_bl, eqv_int, eqv_bl, decide_eq_true_eq, decide_eq_false_iff_not, Bool.not_eq_true', Bool.not_eq_false', Bool.not_true, Bool.not_false, Bool.true_eq_false, Bool.false_eq_true, Bool.and_self, no9]
              have wl := walls_len (sq.take j) sq sh
              have tl : (sq.take j).length ≤ sq.length := by rw [List.length_take]; omega
              have wa := wallsAt_len sq sh p
              refine ⟨by simp [besL, sizeLine_eq], lcG_fm (fun q => if wc sq sh p q = true then some (encS (lawEnds p q)) else none) (fun y hy Kk Nn hq => ?_) ?_⟩
              · simp only [uSeq, later_cons, uNext, uRet, uRetN, uIf, uSet, uSetO, uAsg, uFrz, uFrz1, frzAll, frz1, retE, uVar, uK, u2, wI, cYes, wEq, wIsN, wIx, wMem, uAnd, uOr, uNot, uB, uTAnd, uTOr, uTNot, uRowT, uIte, uChain, uNil, uCons, uLst, uTup, uFld, uSelf, uC, wLen, wTupOf, wI1, wI2, wInt, wBls, wInts, wIsi1, wIsiC, uIsRow, uCall, uCallN, uT, uTs, rowD_lst, rowD_tup, rowD_int, isBk, uRaise, uPar, uParOO, uApp, uExt, uPop, uAug, uNeg, uTIx, wCat, frs0, List.map_cons, List.map_nil, List.getElem?_cons_zero, List.getElem?_cons_succ, List.set_cons_zero, List.set_cons_succ, List.length_cons, List.length_nil, List.nil_append, List.cons_append, Nat.reduceAdd, Nat.reduceSub, List.replicate_zero, List.replicate_succ, isNonD, isFlat, xor_f, xor_t, Bool.true_or, Bool.false_or, Bool.and_true, Bool.true_and, Bool.or_true, Bool.or_false, true_and, and_true, forall_const, true_implies, false_implies, implies_true, Bool.false_eq_true, reduceCtorEq, Option.some.injEq, exists_eq_left, exists_eq_left', kit_tab, exists_and_left, Option.isSome_some, Option.isSome_none, con1, con2, con3, con4, con1E, con2E, con3E, endE, CisI, CisW, CisR, CisP, CisS, atI0, atI1, uSortL, uSortSet, uLenSet, atI2, atI3, uiRow, uiVar, uiRng1, uiRng2, uLc, noOi_fr, noOi_un, noOi_ow, uIxO, List.all_cons, List.all_nil, wipeD, uExpr, uAttr, putD, uMake, uiEnum, initE, iNx, Sl.oi.injEq, and_imp, forall_eq', forall_apply_eq_imp_iff, uM0, uM1, uM2, uMp1, uMp2, eqv_lnil, shp_lnil, shp_ints, retM, uSl, uoN, uoS, wRep, wLtP, uJoin, wRepr, uKwC, wStrO, isSeqD, rowD_P, rowD_S, rowD_Sq, rowD_Sh, tup_P, tup_S, tup_S', lit_sz, shpP60, shpS60, shpsP59, shpsS59, any_P, any_S, any_I, all_P, all_S, tupK_P, tupK_S, alike_two, alike_P, alike_S, optD, shp_int, shp_non, shp_bl, eqv_int, eqv_bl, decide_eq_true_eq, decide_eq_false_iff_not, Bool.not_eq_true', Bool.not_eq_false', Bool.not_true, Bool.not_false, Bool.true_eq_false, Bool.false_eq_true, Bool.and_self]
                have yes : wc sq sh p y = true → C_le (some (L, l, cs)) (60 * i + 1 + 40) [encP p, encP y] (fun t2 d => Kk t2 d true) (fun _ _ => False) := fun z => by
                  rw [if_pos z] at hq
                  exact ⟨p, y, rfl, hq⟩
                refine ⟨fun nm => yes (by unfold wc; rw [decide_eq_true nm]; rfl), fun m => ⟨p, y, rfl, shpS60 _, ?_⟩⟩
                rw [any_S]
                refine ⟨fun z => yes (by unfold wc; rw [z, Bool.or_true]), fun z => ?_⟩
                rw [if_neg (by unfold wc; rw [z, Bool.or_false]; simpa using m)] at hq
                exact hq
              · rw [List.nil_append, wallsAt_fm, ← List.map_append, ← walls_succ ep]
                exact ⟨by rw [List.length_map, List.length_map, sizeLine_eq]; omega, hN _ _ ⟨rfl, _, _, rfl, no9⟩⟩
          · rintro t' δ ⟨rfl, x8, x9, rfl, no9⟩
            rw [List.length_map, List.take_length]
            simp only [chain_cons, turnC_m, uSeq, later_cons, uNext, uRet, uRetN, uIf, uSet, uSetO, uAsg, uFrz, uFrz1, frzAll, frz1, retE, uVar, uK, u2, wI, cYes, wEq, wIsN, wIx, wMem, uAnd, uOr, uNot, uB, uTAnd, uTOr, uTNot, uRowT, uIte, uChain, uNil, uCons, uLst, uTup, uFld, uSelf, uC, wLen, wTupOf, wI1, wI2, wInt, wBls, wInts, wIsi1, wIsiC, uIsRow, uCall, uCallN, uT, uTs, rowD_lst, rowD_tup, rowD_int, isBk, uRaise, uPar, uParOO, uApp, uExt, uPop, uAug, uNeg, uTIx, wCat, frs0, List.map_cons, List.map_nil, List.getElem?_cons_zero, List.getElem?_cons_succ, List.set_cons_zero, List.set_cons_succ, List.length_cons, List.length_nil, List.nil_append, List.cons_append, Nat.reduceAdd, Nat.reduceSub, List.replicate_zero, List.replicate_succ, isNonD, isFlat, xor_f, xor_t, Bool.true_or, Bool.false_or, Bool.and_true, Bool.true_and, Bool.or_true, Bool.or_false, true_and, and_true, forall_const, true_implies, false_implies, implies_true, Bool.false_eq_true, reduceCtorEq, Option.some.injEq, exists_eq_left, exists_eq_left', kit_tab, exists_and_left, Option.isSome_some, Option.isSome_none, con1, con2, con3, con4, con1E, con2E, con3E, endE, CisI, CisW, CisR, CisP, CisS, atI0, atI1, uSortL, uSortSet, uLenSet, atI2, atI3, uiRow, uiVar, uiRng1, uiRng2, uLc, noOi_fr, noOi_un, noOi_ow, uIxO, List.all_cons, List.all_nil, wipeD, uExpr, uAttr, putD, uMake, uiEnum, initE, iNx, Sl.oi.injEq, and_imp, forall_eq', forall_apply_eq_imp_iff, uM0, uM1, uM2, uMp1, uMp2, eqv_lnil, shp_lnil, shp_ints, retM, uSl, uoN, uoS, wRep, wLtP, uJoin, wRepr, uKwC, wStrO, isSeqD, rowD_P, rowD_S, rowD_Sq, rowD_Sh, tup_P, tup_S, tup_S', lit_sz, shpP60, shpS60, shpsP59, shpsS59, any_P, any_S, any_I, all_P, all_S, tupK_P, tupK_S, alike_two, alike_P, alike_S, optD, shp_int, shp_non, shp_bl, eqv_int, eqv_bl, decide_eq_true_eq, decide_eq_false_iff_not, Bool.not_eq_true', Bool.not_eq_false', Bool.not_true, Bool.not_false, Bool.true_eq_false, Bool.false_eq_true, Bool.and_self]
            refine ⟨sq, rfl, by omega, ?_⟩
            simp only [chain_cons, turnC_m, uSeq, later_cons, uNext, uRet, uRetN, uIf, uSet, uSetO, uAsg, uFrz, uFrz1, frzAll, frz1, retE, uVar, uK, u2, wI, cYes, wEq, wIsN, wIx, wMem, uAnd, uOr, uNot, uB, uTAnd, uTOr, uTNot, uRowT, uIte, uChain, uNil, uCons, uLst, uTup, uFld, uSelf, uC, wLen, wTupOf, wI1, wI2, wInt, wBls, wInts, wIsi1, wIsiC, uIsRow, uCall, uCallN, uT, uTs, rowD_lst, rowD_tup, rowD_int, isBk, uRaise, uPar, uParOO, uApp, uExt, uPop, uAug, uNeg, uTIx, wCat, frs0, List.map_cons, List.map_nil, List.getElem?_cons_zero, List.getElem?_cons_succ, List.set_cons_zero, List.set_cons_succ, List.length_cons, List.length_nil, List.nil_append, List.cons_append, Nat.reduceAdd, Nat.reduceSub, List.replicate_zero, List.replicate_succ, isNonD, isFlat, xor_f, xor_t, Bool.true_or, Bool.false_or, Bool.and_true, Bool.true_and, Bool.or_true, Bool.or_false, true_and, and_true, forall_const, true_implies, false_implies, implies_true, Bool.false_eq_true, reduceCtorEq, Option.some.injEq, exists_eq_left, exists_eq_left', kit_tab, exists_and_left, Option.isSome_some, Option.isSome_none, con1, con2, con3, con4, con1E, con2E, con3E, endE, CisI, CisW, CisR, CisP, CisS, atI0, atI1, uSortL, uSortSet, uLenSet, atI2, atI3, uiRow, uiVar, uiRng1, uiRng2, uLc, noOi_fr, noOi_un, noOi_ow, uIxO, List.all_cons, List.all_nil, wipeD, uExpr, uAttr, putD, uMake, uiEnum, initE, iNx, Sl.oi.injEq, and_imp, forall_eq', forall_apply_eq_imp_iff, uM0, uM1, uM2, uMp1, uMp2, eqv_lnil, shp_lnil, shp_ints, retM, uSl, uoN, uoS, wRep, wLtP, uJoin, wRepr, uKwC, wStrO, isSeqD, rowD_P, rowD_S, rowD_Sq, rowD_Sh, tup_P, tup_S, tup_S', lit_sz, shpP60, shpS60, shpsP59, shpsS59, any_P, any_S, any_I, all_P, all_S, tupK_P, tupK_S, alike_two, alike_P, alike_S, optD, shp_int, shp_non, shp_bl, eqv_int, eqv_bl, decide_eq_true_eq, decide_eq_false_iff_not, Bool.not_eq_true', Bool.not_eq_false', Bool.not_true, Bool.not_false, Bool.true_eq_false, Bool.false_eq_true, Bool.and_self]
            have rw2 := raw_len sq sq
            have dl : (dueL sq sh).length ≤ 16 := by
              unfold dueL
              refine Nat.le_trans (List.length_filter_le _ _) ?_
              rw [srt_len]
              unfold sidesRaw
              omega
            refine ⟨by rw [List.length_map, srt_len, sizeLine_eq]; unfold sidesRaw; omega, lcG_fm (fun s => if decide (s ∉ sh) = true then some (encS s) else none) (fun s hs Kk Nn hq => ?_) ?_⟩
            · have ss : D.shps 59 (sh.map encS) = true := shps_S 57 sh
              simp only [uSeq, later_cons, uNext, uRet, uRetN, uIf, uSet, uSetO, uAsg, uFrz, uFrz1, frzAll, frz1, retE, uVar, uK, u2, wI, cYes, wEq, wIsN, wIx, wMem, uAnd, uOr, uNot, uB, uTAnd, uTOr, uTNot, uRowT, uIte, uChain, uNil, uCons, uLst, uTup, uFld, uSelf, uC, wLen, wTupOf, wI1, wI2, wInt, wBls, wInts, wIsi1, wIsiC, uIsRow, uCall, uCallN, uT, uTs, rowD_lst, rowD_tup, rowD_int, isBk, uRaise, uPar, uParOO, uApp, uExt, uPop, uAug, uNeg, uTIx, wCat, frs0, List.map_cons, List.map_nil, List.getElem?_cons_zero, List.getElem?_cons_succ, List.set_cons_zero, List.set_cons_succ, List.length_cons, List.length_nil, List.nil_append, List.cons_append, Nat.reduceAdd, Nat.reduceSub, List.replicate_zero, List.replicate_succ, isNonD, isFlat, xor_f, xor_t, Bool.true_or, Bool.false_or, Bool.and_true, Bool.true_and, Bool.or_true, Bool.or_false, true_and, and_true, forall_const, true_implies, false_implies, implies_true, Bool.false_eq_true, reduceCtorEq, Option.some.injEq, exists_eq_left, exists_eq_left', kit_tab, exists_and_left, Option.isSome_some, Option.isSome_none, con1, con2, con3, con4, con1E, con2E, con3E, endE, CisI, CisW, CisR, CisP, CisS, atI0, atI1, uSortL, uSortSet, uLenSet, atI2, atI3, uiRow, uiVar, uiRng1, uiRng2, uLc, noOi_fr, noOi_un, noOi_ow, uIxO, List.all_cons, List.all_nil, wipeD, uExpr, uAttr, putD, uMake, uiEnum, initE, iNx, Sl.oi.injEq, and_imp, forall_eq', forall_apply_eq_imp_iff, uM0, uM1, uM2, uMp1, uMp2, eqv_lnil, shp_lnil, shp_ints, retM, uSl, uoN, uoS, wRep, wLtP, uJoin, wRepr, uKwC, wStrO, isSeqD, rowD_P, rowD_S, rowD_Sq, rowD_Sh, tup_P, tup_S, tup_S', lit_sz, shpP60, shpS60, shpsP59, shpsS59, any_P, any_S, any_I, all_P, all_S, tupK_P, tupK_S, alike_two, alike_P, alike_S, optD, shp_int, shp_non, shp_bl, eqv_int, eqv_bl, decide_eq_true_eq, decide_eq_false_iff_not, Bool.not_eq_true', Bool.not_eq_false', Bool.not_true, Bool.not_false, Bool.true_eq_false, Bool.false_eq_true, Bool.and_self, ss]
              exact ⟨fun z => by rw [if_pos (decide_eq_true z)] at hq; exact hq, fun z => by rw [if_neg (by simpa using z)] at hq; exact hq⟩
            · rw [List.nil_append, fmB (fun s => decide (s ∉ sh)) encS]
              have ed : ((srt ltS (sidesRaw sq)).filter fun s => decide (s ∉ sh)) = dueL sq sh := rfl
              rw [ed]
              have wl := walls_len sq sq sh
              refine ⟨by rw [List.length_map]; omega, fun M nd mm sr => ?_⟩
              obtain ⟨m, rfl, am, me⟩ := set_enc ordS (fun _ _ => encS_inj) srtD_S nd mm sr
              have me2 : ∀ x, x ∈ m ↔ x ∈ wallsL sq sh := fun x => by rw [me, wallsL_eq]
              have cnt := count_all gl am me2
              have hd := due_sm (sh := sh) gl.inb
              have hm : ∀ s ∈ m, smS s := fun s hs => wall_sm gl.inb s ((me2 s).mp hs)
              have ml : m.length ≤ 32 := by omega
              have od := open_due (sh := sh) gl.asc
              refine ⟨_, rfl, .inl ⟨sq, sh, _, rfl, by omega, ?_⟩⟩
              rw [od]
              refine ⟨_, rfl, .inl ⟨sq, sh, _, rfl, by omega, ?_⟩⟩
              rw [od]
              simp only [chain_cons, turnC_m, wNeS, uSeq, later_cons, uNext, uRet, uRetN, uIf, uSet, uSetO, uAsg, uFrz, uFrz1, frzAll, frz1, retE, uVar, uK, u2, wI, cYes, wEq, wIsN, wIx, wMem, uAnd, uOr, uNot, uB, uTAnd, uTOr, uTNot, uRowT, uIte, uChain, uNil, uCons, uLst, uTup, uFld, uSelf, uC, wLen, wTupOf, wI1, wI2, wInt, wBls, wInts, wIsi1, wIsiC, uIsRow, uCall, uCallN, uT, uTs, rowD_lst, rowD_tup, rowD_int, isBk, uRaise, uPar, uParOO, uApp, uExt, uPop, uAug, uNeg, uTIx, wCat, frs0, List.map_cons, List.map_nil, List.getElem?_cons_zero, List.getElem?_cons_succ, List.set_cons_zero, List.set_cons_succ, List.length_cons, List.length_nil, List.nil_append, List.cons_append, Nat.reduceAdd, Nat.reduceSub, List.replicate_zero, List.replicate_succ, isNonD, isFlat, xor_f, xor_t, Bool.true_or, Bool.false_or, Bool.and_true, Bool.true_and, Bool.or_true, Bool.or_false, true_and, and_true, forall_const, true_implies, false_implies, implies_true, Bool.false_eq_true, reduceCtorEq, Option.some.injEq, exists_eq_left, exists_eq_left', kit_tab, exists_and_left, Option.isSome_some, Option.isSome_none, con1, con2, con3, con4, con1E, con2E, con3E, endE, CisI, CisW, CisR, CisP, CisS, atI0, atI1, uSortL, uSortSet, uLenSet, atI2, atI3, uiRow, uiVar, uiRng1, uiRng2, uLc, noOi_fr, noOi_un, noOi_ow, uIxO, List.all_cons, List.all_nil, wipeD, uExpr, uAttr, putD, uMake, uiEnum, initE, iNx, Sl.oi.injEq, and_imp, forall_eq', forall_apply_eq_imp_iff, uM0, uM1, uM2, uMp1, uMp2, eqv_lnil, shp_lnil, shp_ints, retM, uSl, uoN, uoS, wRep, wLtP, uJoin, wRepr, uKwC, wStrO, isSeqD, rowD_P, rowD_S, rowD_Sq, rowD_Sh, tup_P, tup_S, tup_S', lit_sz, shpP60, shpS60, shpsP59, shpsS59, any_P, any_S, any_I, all_P, all_S, tupK_P, tupK_S, alike_two, alike_P, alike_S, optD, shp_int, shp_non, shp_bl, eqv_int, eqv_bl, decide_eq_true_eq, decide_eq_false_iff_not, Bool.not_eq_true', Bool.not_eq_false', Bool.not_true, Bool.not_false, Bool.true_eq_false, Bool.false_eq_true, Bool.and_self, two_shp, two_sm hd hd, two_sz]
              refine ⟨by omega, by omega, fun z => absurd trivial z, ?_⟩
              refine ⟨_, rfl, .inl ⟨sq, sh, _, rfl, by omega, fun m1 a1 e1 => ?_⟩⟩
              have q1 : m1 = m := a1.uniq ordS am fun x => by rw [e1, me2, walls_mem]
              rw [q1]
              refine ⟨_, rfl, .inl ⟨sq, sh, _, rfl, by omega, fun m2 a2 e2 => ?_⟩⟩
              have q2 : m2 = m := a2.uniq ordS am fun x => by rw [e2, me2, walls_mem]
              rw [q2]
              refine ⟨two_shp m m, two_sm hm hm, by rw [two_sz]; omega, two_sm hm hm, by omega, fun z => absurd rfl z, fun _ => ⟨.inl ⟨by decide, by decide⟩, .inl ⟨by decide, by decide⟩, fun z => ?_, fun _ => ⟨by simp [isInsD, roomD], ?_⟩⟩⟩
              · rw [beqI, decide_eq_false_iff_not] at z
                apply z
                simp only [List.length_map]
                omega
              · refine ⟨sq, sh, f, rfl, by omega, by have := gl.s2; omega, gl.inb, fun s hs => ?_, by unfold smI; omega, fun y => ⟨y, rfl, L, l, cs, _, rfl, rfl, by simp, by simp, by omega, fun d hd => ?_⟩⟩
                · obtain ⟨h1, h2, _⟩ := side_iff.mp (gl.sub s hs)
                  exact ⟨gl.inb _ h1, gl.inb _ h2⟩
                · simp only [chain_nil]
                  refine ⟨by omega, rfl, rfl, rfl, d, rfl, ?_⟩
                  simp only [List.mem_cons, List.not_mem_nil, or_false] at hd
                  rcases hd with rfl | rfl | rfl | rfl | rfl | rfl
                  · rfl
                  · rfl
                  · exact ok_dSq sq
                  · rfl
                  · rfl
                  · rfl
      · rintro F' δ' σ' H' t' f' _ ⟨ht, e0, e1, e14, d, e13, dok⟩
        obtain ⟨w0, g0, r0⟩ := f'.frE e0
        obtain ⟨w1, g1, r1⟩ := f'.frE e1
        obtain ⟨w13, g13, r13⟩ := f'.frE e13
        rw [Rp.adrE r0] at g0
        rw [Rp.adrE r1] at g1
        have l14 : σ'.length = 14 := by rw [← f'.len]; exact e14
        obtain ⟨x0, x1, x2, x3, x4, x5, x6, x7, x8, x9, x10, x11, x12, x13, rfl⟩ := len14 l14
        cases g0
        cases g1
        cases g13
        have rH : Rp K H' w13 d := Rp.up f'.dn.fh r13
        have la' : Lan H' L l cs (60 * (i + 1)) := (f'.dn.mo L l cs rfl).more ht
        obtain ⟨u0, ru0, la1, _⟩ := lan1.ex
        have tb' : Tabs TT H' := tabs_gro (L := L) f'.dn.gr la1 tb1
        refine hear_room (i := 13) (fun t Pq pe h => ⟨d, rfl, .inr ⟨dok, h t⟩⟩) rfl rH tb' fun p1 HA eA tA fA => ?_
        refine hear_room (i := 13) (fun t Pq pe h => ⟨d, rfl, .inr ⟨dok, h t⟩⟩) rfl (rH.ext eA) tA fun p2 HB eB tB fB => ?_
        refine ⟨by show 2 ≤ sizeLine; decide, fun l1 HC nC eC sC => ?_⟩
        refine ⟨by show 2 ≤ sizeLine; decide, fun t1 HD nD eD sD => ⟨by show 1 ≤ sizeLine; decide, fun l2 HE nE eE sE => ⟨l2, 2, _, rfl, rfl, eE, by decide, by decide, (show 1 * 2 ≤ sizeLine by decide), fun l3 n3 => ?_⟩⟩⟩
        have sF : Same HE (upd HE l3 (.lst (List.replicate (Int.toNat 2) [V.ref t1]).flatten)) := Same.neu n3
        have eL3 : (upd HE l3 (.lst (List.replicate (Int.toNat 2) [V.ref t1]).flatten)) l3 = some (.lst [V.ref t1, V.ref t1]) := upd_same
        generalize upd HE l3 (.lst (List.replicate (Int.toNat 2) [V.ref t1]).flatten) = HF at sF eL3
        have sCF : Same HC HF := (sD.trans sE).trans sF
        have tl : ∀ {p : Addr}, HF p = some (.tup [.str "room", .str "room"]) → Dp K HF (.ref p) (.tuple [.str "room", .str "room"]) := fun {p} h => .tup (SqT.of h) (.cons (.str _) (.cons (.str _) .nil))
        have h1 := tl (sCF _ _ (sC _ _ (eB _ _ fA fun ps z => nomatch z)))
        have h2 := tl (sCF _ _ (sC _ _ fB))
        have h3 := tl (sF _ _ (sE _ _ eD))
        refine ⟨.list [.tuple [.str "room", .str "room"], .tuple [.str "room", .str "room"]], .list [.tuple [.str "room", .str "room"], .tuple [.str "room", .str "room"]], .lst (SqL.of (sCF _ _ eC)) (.cons h1 (.cons h2 .nil)), .lst (SqL.of eL3) (.cons h3 (.cons h3 .nil)), by decide +kernel, by decide +kernel, ?_⟩
        have ev : PyData.eqv (.list [.tuple [.str "room", .str "room"], .tuple [.str "room", .str "room"]]) (.list [.tuple [.str "room", .str "room"], .tuple [.str "room", .str "room"]]) = true := by decide +kernel
        rw [ev]
        refine ⟨false, rfl, iteF ?_⟩
        show Turn6 a L l cs TT (i + 1) _ HF
        have sCF2 := sC.trans sCF
        refine ⟨_, _, _, _, _, _, _, _, _, _, _, _, rfl, ((lan_ext (lan_ext la' eA) eB).same sCF2), tB.ext sCF2⟩
    · rintro σ H1 ⟨v2, v3, v4, v5, v6, v7, v8, v9, v10, v11, v12, v13, rfl, lan1, tb1⟩
      refine ⟨turnC K H1 L l cs, rfl, ?_⟩
      have ft : Fits (turnC K H1 L l cs) (fun _ => none) [.fr (.adr a), .fr (.adr L), .un, .un, .un, .un, .un, .un, .un, .un, .un, .un, .un, .un] [some (.ref a), some (.ref L), v2, v3, v4, v5, v6, v7, v8, v9, v10, v11, v12, v13] H1 (60 * 3) := turn_fits lan1 rfl fun j s x e1 e2 => by
        match j with
        | 0 => cases e1; cases e2; exact .inr ⟨_, rfl, rfl⟩
        | 1 => cases e1; cases e2; exact .inr ⟨_, rfl, rfl⟩
        | 2 | 3 | 4 | 5 | 6 | 7 | 8 | 9 | 10 | 11 | 12 | 13 => cases e1; exact .inl rfl
        | j + 14 => simp at e1
      refine ⟨_, _, _, { nx := fun _ _ => False, rt := fun _ d => d = .bl true }, ft, ?_, ⟨fun _ _ _ _ _ _ _ z => z.elim, fun _ _ _ _ _ _ _ z => z.elim, fun _ _ _ _ _ _ _ z => z.elim, fun v F' H' t' d _ _ r e => ?_⟩⟩
      · simp only [turnC_m, uSeq, later_cons, uNext, uRet, uRetN, uIf, uSet, uSetO, uAsg, uFrz, uFrz1, frzAll, frz1, retE, uVar, uK, u2, wI, cYes, wEq, wIsN, wIx, wMem, uAnd, uOr, uNot, uB, uTAnd, uTOr, uTNot, uRowT, uIte, uChain, uNil, uCons, uLst, uTup, uFld, uSelf, uC, wLen, wTupOf, wI1, wI2, wInt, wBls, wInts, wIsi1, wIsiC, uIsRow, uCall, uCallN, uT, uTs, rowD_lst, rowD_tup, rowD_int, isBk, uRaise, uPar, uParOO, uApp, uExt, uPop, uAug, uNeg, uTIx, wCat, frs0, List.map_cons, List.map_nil, List.getElem?_cons_zero, List.getElem?_cons_succ, List.set_cons_zero, List.set_cons_succ, List.length_cons, List.length_nil, List.nil_append, List.cons_append, Nat.reduceAdd, Nat.reduceSub, List.replicate_zero, List.replicate_succ, isNonD, isFlat, xor_f, xor_t, Bool.true_or, Bool.false_or, Bool.and_true, Bool.true_and, Bool.or_true, Bool.or_false, true_and, and_true, forall_const, true_implies, false_implies, implies_true, Bool.false_eq_true, reduceCtorEq, Option.some.injEq, exists_eq_left, exists_eq_left', kit_tab, exists_and_left, Option.isSome_some, Option.isSome_none, con1, con2, con3, con4, con1E, con2E, con3E, endE, CisI, CisW, CisR, CisP, CisS, atI0, atI1, uSortL, uSortSet, uLenSet, atI2, atI3, uiRow, uiVar, uiRng1, uiRng2, uLc, noOi_fr, noOi_un, noOi_ow, uIxO, List.all_cons, List.all_nil, wipeD, uExpr, uAttr, putD, uMake, uiEnum, initE, iNx, Sl.oi.injEq, and_imp, forall_eq', forall_apply_eq_imp_iff, uM0, uM1, uM2, uMp1, uMp2, eqv_lnil, shp_lnil, shp_ints, retM, uSl, uoN, uoS, wRep, wLtP, uJoin, wRepr, uKwC, wStrO, isSeqD, rowD_P, rowD_S, rowD_Sq, rowD_Sh, tup_P, tup_S, tup_S', lit_sz, shpP60, shpS60, shpsP59, shpsS59, any_P, any_S, any_I, all_P, all_S, tupK_P, tupK_S, alike_two, alike_P, alike_S, optD, shp_int, shp_non, shp_bl, eqv_int, eqv_bl, decide_eq_true_eq, decide_eq_false_iff_not, Bool.not_eq_true', Bool.not_eq_false', Bool.not_true, Bool.not_false, Bool.true_eq_false, Bool.false_eq_true, Bool.and_self]
        have g1 : GoodL [((0 : Int), (0 : Int))] [] := ⟨by simp [AscS], by decide, by decide, by simp [inB], by simp [AscS], by decide, by simp, fun p hp => by rw [List.mem_singleton.mp hp]; exact .here⟩
        have r1 : roomTold CR CB CF (.lst [encP (0, 0)]) (.tup []) (.int 1) = .ok (roomD CR [(0, 0)] [] (.int 1)) := by
          have z := g1.room (CR := CR) (CB := CB) (CF := CF) (f := 1) (.inl rfl)
          unfold roomTold at z ⊢
          exact z
        have du : openS [((0 : Int), (0 : Int))] [] = [] := by
          rw [open_due g1.asc]
          decide
        refine ⟨_, _, _, rfl, ok_dSq [(0, 0)], rfl, rfl, fun es he => by cases he; decide, ?_⟩
        rw [r1]
        simp only [turnC_m, uSeq, later_cons, uNext, uRet, uRetN, uIf, uSet, uSetO, uAsg, uFrz, uFrz1, frzAll, frz1, retE, uVar, uK, u2, wI, cYes, wEq, wIsN, wIx, wMem, uAnd, uOr, uNot, uB, uTAnd, uTOr, uTNot, uRowT, uIte, uChain, uNil, uCons, uLst, uTup, uFld, uSelf, uC, wLen, wTupOf, wI1, wI2, wInt, wBls, wInts, wIsi1, wIsiC, uIsRow, uCall, uCallN, uT, uTs, rowD_lst, rowD_tup, rowD_int, isBk, uRaise, uPar, uParOO, uApp, uExt, uPop, uAug, uNeg, uTIx, wCat, frs0, List.map_cons, List.map_nil, List.getElem?_cons_zero, List.getElem?_cons_succ, List.set_cons_zero, List.set_cons_succ, List.length_cons, List.length_nil, List.nil_append, List.cons_append, Nat.reduceAdd, Nat.reduceSub, List.replicate_zero, List.replicate_succ, isNonD, isFlat, xor_f, xor_t, Bool.true_or, Bool.false_or, Bool.and_true, Bool.true_and, Bool.or_true, Bool.or_false, true_and, and_true, forall_const, true_implies, false_implies, implies_true, Bool.false_eq_true, reduceCtorEq, Option.some.injEq, exists_eq_left, exists_eq_left', kit_tab, exists_and_left, Option.isSome_some, Option.isSome_none, con1, con2, con3, con4, con1E, con2E, con3E, endE, CisI, CisW, CisR, CisP, CisS, atI0, atI1, uSortL, uSortSet, uLenSet, atI2, atI3, uiRow, uiVar, uiRng1, uiRng2, uLc, noOi_fr, noOi_un, noOi_ow, uIxO, List.all_cons, List.all_nil, wipeD, uExpr, uAttr, putD, uMake, uiEnum, initE, iNx, Sl.oi.injEq, and_imp, forall_eq', forall_apply_eq_imp_iff, uM0, uM1, uM2, uMp1, uMp2, eqv_lnil, shp_lnil, shp_ints, retM, uSl, uoN, uoS, wRep, wLtP, uJoin, wRepr, uKwC, wStrO, isSeqD, rowD_P, rowD_S, rowD_Sq, rowD_Sh, tup_P, tup_S, tup_S', lit_sz, shpP60, shpS60, shpsP59, shpsS59, any_P, any_S, any_I, all_P, all_S, tupK_P, tupK_S, alike_two, alike_P, alike_S, optD, shp_int, shp_non, shp_bl, eqv_int, eqv_bl, decide_eq_true_eq, decide_eq_false_iff_not, Bool.not_eq_true', Bool.not_eq_false', Bool.not_true, Bool.not_false, Bool.true_eq_false, Bool.false_eq_true, Bool.and_self]
        refine ⟨_, rfl, .inl ⟨_, _, _, rfl, by decide, ?_⟩⟩
        rw [du]
        refine ⟨by decide +kernel, by decide +kernel, fun _ => ?_, fun z => ?_⟩
        · refine ⟨_, _, _, rfl, ok_dSq [(0, 0)], rfl, rfl, fun es he => by cases he; decide, ?_⟩
          rw [r1]
          simp only [turnC_m, uSeq, later_cons, uNext, uRet, uRetN, uIf, uSet, uSetO, uAsg, uFrz, uFrz1, frzAll, frz1, retE, uVar, uK, u2, wI, cYes, wEq, wIsN, wIx, wMem, uAnd, uOr, uNot, uB, uTAnd, uTOr, uTNot, uRowT, uIte, uChain, uNil, uCons, uLst, uTup, uFld, uSelf, uC, wLen, wTupOf, wI1, wI2, wInt, wBls, wInts, wIsi1, wIsiC, uIsRow, uCall, uCallN, uT, uTs, rowD_lst, rowD_tup, rowD_int, isBk, uRaise, uPar, uParOO, uApp, uExt, uPop, uAug, uNeg, uTIx, wCat, frs0, List.map_cons, List.map_nil, List.getElem?_cons_zero, List.getElem?_cons_succ, List.set_cons_zero, List.set_cons_succ, List.length_cons, List.length_nil, List.nil_append, List.cons_append, Nat.reduceAdd, Nat.reduceSub, List.replicate_zero, List.replicate_succ, isNonD, isFlat, xor_f, xor_t, Bool.true_or, Bool.false_or, Bool.and_true, Bool.true_and, Bool.or_true, Bool.or_false, true_and, and_true, forall_const, true_implies, false_implies, implies_true, Bool.false_eq_true, reduceCtorEq, Option.some.injEq, exists_eq_left, exists_eq_left', kit_tab, exists_and_left, Option.isSome_some, Option.isSome_none, con1, con2, con3, con4, con1E, con2E, con3E, endE, CisI, CisW, CisR, CisP, CisS, atI0, atI1, uSortL, uSortSet, uLenSet, atI2, atI3, uiRow, uiVar, uiRng1, uiRng2, uLc, noOi_fr, noOi_un, noOi_ow, uIxO, List.all_cons, List.all_nil, wipeD, uExpr, uAttr, putD, uMake, uiEnum, initE, iNx, Sl.oi.injEq, and_imp, forall_eq', forall_apply_eq_imp_iff, uM0, uM1, uM2, uMp1, uMp2, eqv_lnil, shp_lnil, shp_ints, retM, uSl, uoN, uoS, wRep, wLtP, uJoin, wRepr, uKwC, wStrO, isSeqD, rowD_P, rowD_S, rowD_Sq, rowD_Sh, tup_P, tup_S, tup_S', lit_sz, shpP60, shpS60, shpsP59, shpsS59, any_P, any_S, any_I, all_P, all_S, tupK_P, tupK_S, alike_two, alike_P, alike_S, optD, shp_int, shp_non, shp_bl, eqv_int, eqv_bl, decide_eq_true_eq, decide_eq_false_iff_not, Bool.not_eq_true', Bool.not_eq_false', Bool.not_true, Bool.not_false, Bool.true_eq_false, Bool.false_eq_true, Bool.and_self]
          refine ⟨_, rfl, .inl ⟨_, _, _, rfl, by decide, fun m am me => ?_⟩⟩
          have cn := count_all g1 am fun x => by rw [me, walls_mem]
          have dl : dueL [((0 : Int), (0 : Int))] [] = [] := by decide
          rw [dl] at cn
          simp only [uSeq, later_cons, uNext, uRet, uRetN, uIf, uSet, uSetO, uAsg, uFrz, uFrz1, frzAll, frz1, retE, uVar, uK, u2, wI, cYes, wEq, wIsN, wIx, wMem, uAnd, uOr, uNot, uB, uTAnd, uTOr, uTNot, uRowT, uIte, uChain, uNil, uCons, uLst, uTup, uFld, uSelf, uC, wLen, wTupOf, wI1, wI2, wInt, wBls, wInts, wIsi1, wIsiC, uIsRow, uCall, uCallN, uT, uTs, rowD_lst, rowD_tup, rowD_int, isBk, uRaise, uPar, uParOO, uApp, uExt, uPop, uAug, uNeg, uTIx, wCat, frs0, List.map_cons, List.map_nil, List.getElem?_cons_zero, List.getElem?_cons_succ, List.set_cons_zero, List.set_cons_succ, List.length_cons, List.length_nil, List.nil_append, List.cons_append, Nat.reduceAdd, Nat.reduceSub, List.replicate_zero, List.replicate_succ, isNonD, isFlat, xor_f, xor_t, Bool.true_or, Bool.false_or, Bool.and_true, Bool.true_and, Bool.or_true, Bool.or_false, true_and, and_true, forall_const, true_implies, false_implies, implies_true, Bool.false_eq_true, reduceCtorEq, Option.some.injEq, exists_eq_left, exists_eq_left', kit_tab, exists_and_left, Option.isSome_some, Option.isSome_none, con1, con2, con3, con4, con1E, con2E, con3E, endE, CisI, CisW, CisR, CisP, CisS, atI0, atI1, uSortL, uSortSet, uLenSet, atI2, atI3, uiRow, uiVar, uiRng1, uiRng2, uLc, noOi_fr, noOi_un, noOi_ow, uIxO, List.all_cons, List.all_nil, wipeD, uExpr, uAttr, putD, uMake, uiEnum, initE, iNx, Sl.oi.injEq, and_imp, forall_eq', forall_apply_eq_imp_iff, uM0, uM1, uM2, uMp1, uMp2, eqv_lnil, shp_lnil, shp_ints, retM, uSl, uoN, uoS, wRep, wLtP, uJoin, wRepr, uKwC, wStrO, isSeqD, List.length_map, List.length_nil, List.length_cons] at cn ⊢
          have e4 : m.length = 4 := by omega
          rw [e4]
          rfl
        · have y : D.eqv (dSh []) (.tup []) = true := by decide +kernel
          rw [y] at z
          cases z
      · subst e
        cases r
        exact q H'
end
end K06

set_option linter.all false
set_option maxRecDepth 100000
set_option maxHeartbeats 4000000
namespace K06
open PySem PySem.Spec PyProof.Rows L2 Nv VL LamX
theorem plK {K : PySem.W.Frag} {F : Hp} {a : Addr} {its : Array Value} {n : Nat} {sl : Array (Option Value)} {xs : List V} {ds : List D} (h : K.lookup a = some ⟨.type "tuple", none, .seq its n, sl⟩) (sz : its.size ≤ sizeLine) (r : Vals xs its.toList) (rs : Rps K F xs ds) : Rp K F (.ref a) (.tup ds) := .tup (.inr ⟨_, its, n, h, rfl, rfl, rfl, sz, r⟩) rs
end K06
namespace K06
open PySem PySem.Spec PyProof.Rows L2 Nv LamX VL
theorem all_mk {l : PySem.W.OpenLaw} {w : World} {K : PySem.W.Frag} {h : Heap} {mg : Str → Option Value} {fa : Addr} (X : K.In h) (G : h.Ns mainGlobals mg) (hfa : mg "law" = some (.ref fa))
    {tq1 : Tok} {tq2 : Tok} {aST_0 : Addr} {n_aST_0 : Nat} {sl_aST_0 : Array (Option Value)} {tq3 : Tok} {tq4 : Tok} {aST_1 : Addr} {n_aST_1 : Nat} {sl_aST_1 : Array (Option Value)} {tq5 : Tok} {tq6 : Tok} {aST_2 : Addr} {n_aST_2 : Nat} {sl_aST_2 : Array (Option Value)} {tq7 : Tok} {tq8 : Tok} {aST_3 : Addr} {n_aST_3 : Nat} {sl_aST_3 : Array (Option Value)} {aST : Addr} {n_aST : Nat} {sl_aST : Array (Option Value)} {tq9 : Tok} {tq10 : Tok} {aEN_0_0 : Addr} {n_aEN_0_0 : Nat} {sl_aEN_0_0 : Array (Option Value)} {tq11 : Tok} {tq12 : Tok} {aEN_0_1 : Addr} {n_aEN_0_1 : Nat} {sl_aEN_0_1 : Array (Option Value)} {aEN_0 : Addr} {n_aEN_0 : Nat} {sl_aEN_0 : Array (Option Value)} {tq13 : Tok} {tq14 : Tok} {aEN_1_0 : Addr} {n_aEN_1_0 : Nat} {sl_aEN_1_0 : Array (Option Value)} {tq15 : Tok} {tq16 : Tok} {aEN_1_1 : Addr} {n_aEN_1_1 : Nat} {sl_aEN_1_1 : Array (Option Value)} {aEN_1 : Addr} {n_aEN_1 : Nat} {sl_aEN_1 : Array (Option Value)} {tq17 : Tok} {tq18 : Tok} {aEN_2_0 : Addr} {n_aEN_2_0 : Nat} {sl_aEN_2_0 : Array (Option Value)} {tq19 : Tok} {tq20 : Tok} {aEN_2_1 : Addr} {n_aEN_2_1 : Nat} {sl_aEN_2_1 : Array (Option Value)} {aEN_2 : Addr} {n_aEN_2 : Nat} {sl_aEN_2 : Array (Option Value)} {tq21 : Tok} {tq22 : Tok} {aEN_3_0 : Addr} {n_aEN_3_0 : Nat} {sl_aEN_3_0 : Array (Option Value)} {tq23 : Tok} {tq24 : Tok} {aEN_3_1 : Addr} {n_aEN_3_1 : Nat} {sl_aEN_3_1 : Array (Option Value)} {aEN_3 : Addr} {n_aEN_3 : Nat} {sl_aEN_3 : Array (Option Value)} {aEN : Addr} {n_aEN : Nat} {sl_aEN : Array (Option Value)} {aE : Addr} {n_aE : Nat} {sl_aE : Array (Option Value)} {tc99 tc8 tc24 tkE : Tok} {f0 : Addr} {od0 an0 : Option Addr} {sl0 : Array (Option Value)} {oc0 kV0 dc0 pm0 ct0 : Value} {cd0 : Value} {f1 : Addr} {od1 an1 : Option Addr} {sl1 : Array (Option Value)} {oc1 kV1 dc1 pm1 ct1 : Value} {cd1 : Value} {f2 : Addr} {od2 an2 : Option Addr} {sl2 : Array (Option Value)} {oc2 kV2 dc2 pm2 ct2 : Value} {cd2 : Value} {f3 : Addr} {od3 an3 : Option Addr} {sl3 : Array (Option Value)} {oc3 kV3 dc3 pm3 ct3 : Value} {cd3 : Value} {f4 : Addr} {od4 an4 : Option Addr} {sl4 : Array (Option Value)} {oc4 kV4 dc4 pm4 ct4 : Value} {cd4 : Value} {f5 : Addr} {od5 an5 : Option Addr} {sl5 : Array (Option Value)} {oc5 kV5 dc5 pm5 ct5 : Value} {cd5 : Value} {f6 : Addr} {od6 an6 : Option Addr} {sl6 : Array (Option Value)} {oc6 kV6 dc6 pm6 ct6 : Value} {cd6 : Value} {f7 : Addr} {od7 an7 : Option Addr} {sl7 : Array (Option Value)} {oc7 kV7 dc7 pm7 ct7 : Value} {cd7 : Value} {f8 : Addr} {od8 an8 : Option Addr} {sl8 : Array (Option Value)} {oc8 kV8 dc8 pm8 ct8 : Value} {cd8 : Value} {f9 : Addr} {od9 an9 : Option Addr} {sl9 : Array (Option Value)} {oc9 kV9 dc9 pm9 ct9 : Value} {cd9 : Value} {f10 : Addr} {od10 an10 : Option Addr} {sl10 : Array (Option Value)} {oc10 kV10 dc10 pm10 ct10 : Value} {cd10 : Value} {f11 : Addr} {od11 an11 : Option Addr} {sl11 : Array (Option Value)} {oc11 kV11 dc11 pm11 ct11 : Value} {cd11 : Value} {f12 : Addr} {od12 an12 : Option Addr} {sl12 : Array (Option Value)} {oc12 kV12 dc12 pm12 ct12 : Value} {cd12 : Value} {f13 : Addr} {od13 an13 : Option Addr} {sl13 : Array (Option Value)} {oc13 kV13 dc13 pm13 ct13 : Value} {cd13 : Value} {f14 : Addr} {od14 an14 : Option Addr} {sl14 : Array (Option Value)} {oc14 kV14 dc14 pm14 ct14 : Value} {cd14 : Value} {f15 : Addr} {od15 an15 : Option Addr} {sl15 : Array (Option Value)} {oc15 kV15 dc15 pm15 ct15 : Value} {cd15 : Value} {f16 : Addr} {od16 an16 : Option Addr} {sl16 : Array (Option Value)} {oc16 kV16 dc16 pm16 ct16 : Value} {cd16 : Value} {f17 : Addr} {od17 an17 : Option Addr} {sl17 : Array (Option Value)} {oc17 kV17 dc17 pm17 ct17 : Value} {cd17 : Value} {f18 : Addr} {od18 an18 : Option Addr} {sl18 : Array (Option Value)} {oc18 kV18 dc18 pm18 ct18 : Value} {cd18 : Value} {f19 : Addr} {od19 an19 : Option Addr} {sl19 : Array (Option Value)} {oc19 kV19 dc19 pm19 ct19 : Value} {cd19 : Value} {f20 : Addr} {od20 an20 : Option Addr} {sl20 : Array (Option Value)} {oc20 kV20 dc20 pm20 ct20 : Value} {cd20 : Value} {f21 : Addr} {od21 an21 : Option Addr} {sl21 : Array (Option Value)} {oc21 kV21 dc21 pm21 ct21 : Value} {cd21 : Value} {f22 : Addr} {od22 an22 : Option Addr} {sl22 : Array (Option Value)} {oc22 kV22 dc22 pm22 ct22 : Value} {cd22 : Value} {f23 : Addr} {od23 an23 : Option Addr} {sl23 : Array (Option Value)} {oc23 kV23 dc23 pm23 ct23 : Value} {cd23 : Value} {f24 : Addr} {od24 an24 : Option Addr} {sl24 : Array (Option Value)} {oc24 kV24 dc24 pm24 ct24 : Value} {cA24 P24 : Addr} {vc24 : Value} {dd24 : Option Addr} {fs24 : Array Value} {sc24 : Array (Option Value)} {CRoom : Addr} {f_Room_init : Addr} {od_Room_init an_Room_init : Option Addr} {sl_Room_init : Array (Option Value)} {oc_Room_init kV_Room_init dc_Room_init pm_Room_init cd_Room_init ct_Room_init : Value} {f_Room_str : Addr} {od_Room_str an_Room_str : Option Addr} {sl_Room_str : Array (Option Value)} {oc_Room_str kV_Room_str dc_Room_str pm_Room_str cd_Room_str ct_Room_str : Value} {aDf_Room : Addr} {nDf_Room : Nat} {slDf_Room : Array (Option Value)} {CMirrorError : Addr} {CBadRoom : Addr} {nm_BadRoom qn_BadRoom : Str} {N_BadRoom : Addr} {bs_BadRoom sub_BadRoom : List Value} {sn_BadRoom : List Str} {ab_BadRoom : Bool} {col_BadRoom : Option Bool} {m0_BadRoom m1_BadRoom m2_BadRoom m3_BadRoom m5_BadRoom : Option Value} {dd_BadRoom : Option Addr} {f_BadRoom_init : Addr} {od_BadRoom_init an_BadRoom_init : Option Addr} {sl_BadRoom_init : Array (Option Value)} {oc_BadRoom_init kV_BadRoom_init dc_BadRoom_init pm_BadRoom_init cd_BadRoom_init ct_BadRoom_init : Value} {CMisfit : Addr} {nm_Misfit qn_Misfit : Str} {N_Misfit : Addr} {bs_Misfit sub_Misfit : List Value} {sn_Misfit : List Str} {ab_Misfit : Bool} {col_Misfit : Option Bool} {m0_Misfit m1_Misfit m2_Misfit m3_Misfit m5_Misfit : Option Value} {dd_Misfit : Option Addr} {f_Misfit_init : Addr} {od_Misfit_init an_Misfit_init : Option Addr} {sl_Misfit_init : Array (Option Value)} {oc_Misfit_init kV_Misfit_init dc_Misfit_init pm_Misfit_init cd_Misfit_init ct_Misfit_init : Value}
    (a0 : PySem.W.nsIn K mainGlobals "is_integer" = some (some (.ref f0)))
    (l0 : K.lookup f0 = some ⟨oc0, od0, .func (PySem.W.fnOf "is_integer" "is_integer" (defArgs s_is_integer) (defBody s_is_integer) (defScope s_is_integer) .none kV0 dc0 pm0 an0 cd0 ct0), sl0⟩)
    (c0 : PySem.W.codeIn K cd0 "is_integer" = true)
    (k0 : PySem.W.keepIn K (.ref f0) = true)
    (a1 : PySem.W.nsIn K mainGlobals "is_within" = some (some (.ref f1)))
    (l1 : K.lookup f1 = some ⟨oc1, od1, .func (PySem.W.fnOf "is_within" "is_within" (defArgs s_is_within) (defBody s_is_within) (defScope s_is_within) .none kV1 dc1 pm1 an1 cd1 ct1), sl1⟩)
    (c1 : PySem.W.codeIn K cd1 "is_within" = true)
    (k1 : PySem.W.keepIn K (.ref f1) = true)
    (a2 : PySem.W.nsIn K mainGlobals "is_row" = some (some (.ref f2)))
    (l2 : K.lookup f2 = some ⟨oc2, od2, .func (PySem.W.fnOf "is_row" "is_row" (defArgs s_is_row) (defBody s_is_row) (defScope s_is_row) .none kV2 dc2 pm2 an2 cd2 ct2), sl2⟩)
    (c2 : PySem.W.codeIn K cd2 "is_row" = true)
    (k2 : PySem.W.keepIn K (.ref f2) = true)
    (a3 : PySem.W.nsIn K mainGlobals "is_point" = some (some (.ref f3)))
    (l3 : K.lookup f3 = some ⟨oc3, od3, .func (PySem.W.fnOf "is_point" "is_point" (defArgs s_is_point) (defBody s_is_point) (defScope s_is_point) .none kV3 dc3 pm3 an3 cd3 ct3), sl3⟩)
    (c3 : PySem.W.codeIn K cd3 "is_point" = true)
    (k3 : PySem.W.keepIn K (.ref f3) = true)
    (a4 : PySem.W.nsIn K mainGlobals "is_square" = some (some (.ref f4)))
    (l4 : K.lookup f4 = some ⟨oc4, od4, .func (PySem.W.fnOf "is_square" "is_square" (defArgs s_is_square) (defBody s_is_square) (defScope s_is_square) .none kV4 dc4 pm4 an4 cd4 ct4), sl4⟩)
    (c4 : PySem.W.codeIn K cd4 "is_square" = true)
    (k4 : PySem.W.keepIn K (.ref f4) = true)
    (a5 : PySem.W.nsIn K mainGlobals "side_told" = some (some (.ref f5)))
    (l5 : K.lookup f5 = some ⟨oc5, od5, .func (PySem.W.fnOf "side_told" "side_told" (defArgs s_side_told) (defBody s_side_told) (defScope s_side_told) .none kV5 dc5 pm5 an5 cd5 ct5), sl5⟩)
    (c5 : PySem.W.codeIn K cd5 "side_told" = true)
    (k5 : PySem.W.keepIn K (.ref f5) = true)
    (a6 : PySem.W.nsIn K mainGlobals "hang_together" = some (some (.ref f6)))
    (l6 : K.lookup f6 = some ⟨oc6, od6, .func (PySem.W.fnOf "hang_together" "hang_together" (defArgs s_hang_together) (defBody s_hang_together) (defScope s_hang_together) .none kV6 dc6 pm6 an6 cd6 ct6), sl6⟩)
    (c6 : PySem.W.codeIn K cd6 "hang_together" = true)
    (k6 : PySem.W.keepIn K (.ref f6) = true)
    (a7 : PySem.W.nsIn K mainGlobals "need_room" = some (some (.ref f7)))
    (l7 : K.lookup f7 = some ⟨oc7, od7, .func (PySem.W.fnOf "need_room" "need_room" (defArgs s_need_room) (defBody s_need_room) (defScope s_need_room) .none kV7 dc7 pm7 an7 cd7 ct7), sl7⟩)
    (c7 : PySem.W.codeIn K cd7 "need_room" = true)
    (k7 : PySem.W.keepIn K (.ref f7) = true)
    (a8 : PySem.W.nsIn K mainGlobals "_squares_told" = some (some (.ref f8)))
    (l8 : K.lookup f8 = some ⟨oc8, od8, .func (PySem.W.fnOf "_squares_told" "_squares_told" (defArgs s__squares_told) (defBody s__squares_told) (defScope s__squares_told) .none kV8 dc8 pm8 an8 cd8 ct8), sl8⟩)
    (c8 : PySem.W.codeIn K cd8 "_squares_told" = true)
    (k8 : PySem.W.keepIn K (.ref f8) = true)
    (a9 : PySem.W.nsIn K mainGlobals "_shut_told" = some (some (.ref f9)))
    (l9 : K.lookup f9 = some ⟨oc9, od9, .func (PySem.W.fnOf "_shut_told" "_shut_told" (defArgs s__shut_told) (defBody s__shut_told) (defScope s__shut_told) .none kV9 dc9 pm9 an9 cd9 ct9), sl9⟩)
    (c9 : PySem.W.codeIn K cd9 "_shut_told" = true)
    (k9 : PySem.W.keepIn K (.ref f9) = true)
    (a10 : PySem.W.nsIn K mainGlobals "_number_beyond" = some (some (.ref f10)))
    (l10 : K.lookup f10 = some ⟨oc10, od10, .func (PySem.W.fnOf "_number_beyond" "_number_beyond" (defArgs s__number_beyond) (defBody s__number_beyond) (defScope s__number_beyond) .none kV10 dc10 pm10 an10 cd10 ct10), sl10⟩)
    (c10 : PySem.W.codeIn K cd10 "_number_beyond" = true)
    (k10 : PySem.W.keepIn K (.ref f10) = true)
    (a11 : PySem.W.nsIn K mainGlobals "_all_beyond" = some (some (.ref f11)))
    (l11 : K.lookup f11 = some ⟨oc11, od11, .func (PySem.W.fnOf "_all_beyond" "_all_beyond" (defArgs s__all_beyond) (defBody s__all_beyond) (defScope s__all_beyond) .none kV11 dc11 pm11 an11 cd11 ct11), sl11⟩)
    (c11 : PySem.W.codeIn K cd11 "_all_beyond" = true)
    (k11 : PySem.W.keepIn K (.ref f11) = true)
    (a12 : PySem.W.nsIn K mainGlobals "open_sides" = some (some (.ref f12)))
    (l12 : K.lookup f12 = some ⟨oc12, od12, .func (PySem.W.fnOf "open_sides" "open_sides" (defArgs s_open_sides) (defBody s_open_sides) (defScope s_open_sides) .none kV12 dc12 pm12 an12 cd12 ct12), sl12⟩)
    (c12 : PySem.W.codeIn K cd12 "open_sides" = true)
    (k12 : PySem.W.keepIn K (.ref f12) = true)
    (a13 : PySem.W.nsIn K mainGlobals "walls_of" = some (some (.ref f13)))
    (l13 : K.lookup f13 = some ⟨oc13, od13, .func (PySem.W.fnOf "walls_of" "walls_of" (defArgs s_walls_of) (defBody s_walls_of) (defScope s_walls_of) .none kV13 dc13 pm13 an13 cd13 ct13), sl13⟩)
    (c13 : PySem.W.codeIn K cd13 "walls_of" = true)
    (k13 : PySem.W.keepIn K (.ref f13) = true)
    (a14 : PySem.W.nsIn K mainGlobals "_law_mason" = some (some (.ref f14)))
    (l14 : K.lookup f14 = some ⟨oc14, od14, .func (PySem.W.fnOf "_law_mason" "_law_mason" (defArgs s__law_mason) (defBody s__law_mason) (defScope s__law_mason) .none kV14 dc14 pm14 an14 cd14 ct14), sl14⟩)
    (c14 : PySem.W.codeIn K cd14 "_law_mason" = true)
    (k14 : PySem.W.keepIn K (.ref f14) = true)
    (a15 : PySem.W.nsIn K mainGlobals "_law_trowel" = some (some (.ref f15)))
    (l15 : K.lookup f15 = some ⟨oc15, od15, .func (PySem.W.fnOf "_law_trowel" "_law_trowel" (defArgs s__law_trowel) (defBody s__law_trowel) (defScope s__law_trowel) .none kV15 dc15 pm15 an15 cd15 ct15), sl15⟩)
    (c15 : PySem.W.codeIn K cd15 "_law_trowel" = true)
    (k15 : PySem.W.keepIn K (.ref f15) = true)
    (a16 : PySem.W.nsIn K mainGlobals "_law_brick" = some (some (.ref f16)))
    (l16 : K.lookup f16 = some ⟨oc16, od16, .func (PySem.W.fnOf "_law_brick" "_law_brick" (defArgs s__law_brick) (defBody s__law_brick) (defScope s__law_brick) .none kV16 dc16 pm16 an16 cd16 ct16), sl16⟩)
    (c16 : PySem.W.codeIn K cd16 "_law_brick" = true)
    (k16 : PySem.W.keepIn K (.ref f16) = true)
    (a17 : PySem.W.nsIn K mainGlobals "_law_beside" = some (some (.ref f17)))
    (l17 : K.lookup f17 = some ⟨oc17, od17, .func (PySem.W.fnOf "_law_beside" "_law_beside" (defArgs s__law_beside) (defBody s__law_beside) (defScope s__law_beside) .none kV17 dc17 pm17 an17 cd17 ct17), sl17⟩)
    (c17 : PySem.W.codeIn K cd17 "_law_beside" = true)
    (k17 : PySem.W.keepIn K (.ref f17) = true)
    (a18 : PySem.W.nsIn K mainGlobals "_law_side" = some (some (.ref f18)))
    (l18 : K.lookup f18 = some ⟨oc18, od18, .func (PySem.W.fnOf "_law_side" "_law_side" (defArgs s__law_side) (defBody s__law_side) (defScope s__law_side) .none kV18 dc18 pm18 an18 cd18 ct18), sl18⟩)
    (c18 : PySem.W.codeIn K cd18 "_law_side" = true)
    (k18 : PySem.W.keepIn K (.ref f18) = true)
    (a19 : PySem.W.nsIn K mainGlobals "_law_hangs" = some (some (.ref f19)))
    (l19 : K.lookup f19 = some ⟨oc19, od19, .func (PySem.W.fnOf "_law_hangs" "_law_hangs" (defArgs s__law_hangs) (defBody s__law_hangs) (defScope s__law_hangs) .none kV19 dc19 pm19 an19 cd19 ct19), sl19⟩)
    (c19 : PySem.W.codeIn K cd19 "_law_hangs" = true)
    (k19 : PySem.W.keepIn K (.ref f19) = true)
    (a20 : PySem.W.nsIn K mainGlobals "_law_sides" = some (some (.ref f20)))
    (l20 : K.lookup f20 = some ⟨oc20, od20, .func (PySem.W.fnOf "_law_sides" "_law_sides" (defArgs s__law_sides) (defBody s__law_sides) (defScope s__law_sides) .none kV20 dc20 pm20 an20 cd20 ct20), sl20⟩)
    (c20 : PySem.W.codeIn K cd20 "_law_sides" = true)
    (k20 : PySem.W.keepIn K (.ref f20) = true)
    (a21 : PySem.W.nsIn K mainGlobals "_law_room" = some (some (.ref f21)))
    (l21 : K.lookup f21 = some ⟨oc21, od21, .func (PySem.W.fnOf "_law_room" "_law_room" (defArgs s__law_room) (defBody s__law_room) (defScope s__law_room) .none kV21 dc21 pm21 an21 cd21 ct21), sl21⟩)
    (c21 : PySem.W.codeIn K cd21 "_law_room" = true)
    (k21 : PySem.W.keepIn K (.ref f21) = true)
    (a22 : PySem.W.nsIn K mainGlobals "_law_heard" = some (some (.ref f22)))
    (l22 : K.lookup f22 = some ⟨oc22, od22, .func (PySem.W.fnOf "_law_heard" "_law_heard" (defArgs s__law_heard) (defBody s__law_heard) (defScope s__law_heard) .none kV22 dc22 pm22 an22 cd22 ct22), sl22⟩)
    (c22 : PySem.W.codeIn K cd22 "_law_heard" = true)
    (k22 : PySem.W.keepIn K (.ref f22) = true)
    (a23 : PySem.W.nsIn K mainGlobals "_law_ends" = some (some (.ref f23)))
    (l23 : K.lookup f23 = some ⟨oc23, od23, .func (PySem.W.fnOf "_law_ends" "_law_ends" (defArgs s__law_ends) (defBody s__law_ends) (defScope s__law_ends) .none kV23 dc23 pm23 an23 cd23 ct23), sl23⟩)
    (c23 : PySem.W.codeIn K cd23 "_law_ends" = true)
    (k23 : PySem.W.keepIn K (.ref f23) = true)
    (a24 : PySem.W.nsIn K mainGlobals "law" = some (some (.ref f24)))
    (l24 : K.lookup f24 = some ⟨oc24, od24, .func (PySem.W.fnOf "law" "law" (defArgs s_law) (defBody s_law) (defScope s_law) .none kV24 dc24 pm24 an24 (.ref cA24) ct24), sl24⟩)
    (c24 : PySem.W.codeIn K (.ref cA24) "law" = true)
    (k24 : PySem.W.keepIn K (.ref f24) = true)
    (q24 : K.lookup cA24 = some ⟨vc24, dd24, .fields fs24, sc24⟩)
    (p24 : fs24[11]? = some (.ref P24))
    (h24 : PySem.W.codeHdIn K cA24 P24 = true)
    (n24 : K.lookup P24 = none)
    (t24 : h.get? P24 = some (PySem.W.tabObj #[]))
    (g_Room : PySem.W.nsIn K mainGlobals "Room" = some (some (.ref CRoom)))
    (Room_pg : PySem.W.plainGet K CRoom Str.empty = true)
    (Room_hd : PySem.W.hasDictIn K CRoom = true)
    (Room_po : PySem.W.plainOver K CRoom = true)
    (Room_sa : PySem.W.findIn K (.ref CRoom) "__setattr__" = some (some (.builtin "object.__setattr__")))
    (Room_mk : PySem.W.makesIn K CRoom = true)
    (Room_kp : PySem.W.keepIn K (.ref CRoom) = true)
    (Room_ne : PySem.W.findIn K (.ref CRoom) "__ne__" = some (some (.builtin "object.__ne__")))
    (Room_ob : PySem.W.mroIn K CRoom (.type "object") = some true)
    (Room_ca : PySem.W.findIn K (.ref CRoom) "__class__" = some (some (.builtin "object.__class__")))
    (Room_no_squares : PySem.W.findIn K (.ref CRoom) "squares" = some none)
    (Room_no_shut : PySem.W.findIn K (.ref CRoom) "shut" = some none)
    (Room_no_fine : PySem.W.findIn K (.ref CRoom) "fine" = some none)
    (Room_no_many : PySem.W.findIn K (.ref CRoom) "many" = some none)
    (Room_no_beyond : PySem.W.findIn K (.ref CRoom) "beyond" = some none)
    (i_Room_init : PySem.W.findIn K (.ref CRoom) "__init__" = some (some (.ref f_Room_init)))
    (l_Room_init : K.lookup f_Room_init = some ⟨oc_Room_init, od_Room_init, .func (PySem.W.fnOf "__init__" "Room.__init__" (defArgs s_Room_init) (defBody s_Room_init) (defScope s_Room_init) (.ref aDf_Room) kV_Room_init dc_Room_init pm_Room_init an_Room_init cd_Room_init ct_Room_init), sl_Room_init⟩)
    (c_Room_init : PySem.W.codeIn K cd_Room_init "Room.__init__" = true)
    (k_Room_init : PySem.W.keepIn K (.ref f_Room_init) = true)
    (e_Room_init : PySem.W.isFn K (.ref f_Room_init) = true)
    (i_Room_str : PySem.W.findIn K (.ref CRoom) "__str__" = some (some (.ref f_Room_str)))
    (l_Room_str : K.lookup f_Room_str = some ⟨oc_Room_str, od_Room_str, .func (PySem.W.fnOf "__str__" "Room.__str__" (defArgs s_Room_str) (defBody s_Room_str) (defScope s_Room_str) .none kV_Room_str dc_Room_str pm_Room_str an_Room_str cd_Room_str ct_Room_str), sl_Room_str⟩)
    (c_Room_str : PySem.W.codeIn K cd_Room_str "Room.__str__" = true)
    (k_Room_str : PySem.W.keepIn K (.ref f_Room_str) = true)
    (e_Room_str : PySem.W.isFn K (.ref f_Room_str) = true)
    (df_Room : K.lookup aDf_Room = some ⟨.type "tuple", none, .seq #[.ref aE, .int 1 tkE] nDf_Room, slDf_Room⟩)
    (obj_g : PySem.W.specialIn K (.builtin "object.__class__") "__get__" = some (some (.builtin "getset_descriptor.__get__")))
    (obj_t : PySem.W.takesIn K (.builtin "object.__class__") = some true)
    (g_MirrorError : PySem.W.nsIn K mainGlobals "MirrorError" = some (some (.ref CMirrorError)))
    (g_BadRoom : PySem.W.nsIn K mainGlobals "BadRoom" = some (some (.ref CBadRoom)))
    (x_BadRoom : K.lookup CBadRoom = some (excClassObj nm_BadRoom qn_BadRoom CBadRoom N_BadRoom bs_BadRoom [.ref CMirrorError, .type "ValueError", .type "Exception", .type "BaseException", .type "object"] true sn_BadRoom sub_BadRoom ab_BadRoom col_BadRoom dd_BadRoom m0_BadRoom m1_BadRoom m2_BadRoom m3_BadRoom m5_BadRoom "ValueError.__new__"))
    (BadRoom_sa : PySem.W.findIn K (.ref CBadRoom) "__setattr__" = some (some (.builtin "object.__setattr__")))
    (BadRoom_ex : PySem.W.subIn K (.ref CBadRoom) (.type "BaseException") = some true)
    (BadRoom_ty : PySem.W.typeIn K (.ref CBadRoom) = some (.type "type"))
    (BadRoom_kp : PySem.W.keepIn K (.ref CBadRoom) = true)
    (BadRoom_ga : PySem.W.findIn K (.ref CBadRoom) "__getattribute__" = some (some (.builtin "BaseException.__getattribute__")))
    (BadRoom_gg : PySem.W.findIn K (.ref CBadRoom) "__getattr__" = some none)
    (BadRoom_hd : PySem.W.hasDictIn K CBadRoom = true)
    (BadRoom_ca : PySem.W.findIn K (.ref CBadRoom) "__class__" = some (some (.builtin "object.__class__")))
    (BadRoom_ob : PySem.W.mroIn K CBadRoom (.type "object") = some true)
    (i_BadRoom_init : PySem.W.findIn K (.ref CBadRoom) "__init__" = some (some (.ref f_BadRoom_init)))
    (ti_BadRoom_init : PySem.W.typeIn K (.ref f_BadRoom_init) = some (.type "function"))
    (l_BadRoom_init : K.lookup f_BadRoom_init = some ⟨oc_BadRoom_init, od_BadRoom_init, .func (PySem.W.fnOf "__init__" "BadRoom.__init__" (defArgs s_BadRoom_init) (defBody s_BadRoom_init) (defScope s_BadRoom_init) .none kV_BadRoom_init dc_BadRoom_init pm_BadRoom_init an_BadRoom_init cd_BadRoom_init ct_BadRoom_init), sl_BadRoom_init⟩)
    (c_BadRoom_init : PySem.W.codeIn K cd_BadRoom_init "BadRoom.__init__" = true)
    (k_BadRoom_init : PySem.W.keepIn K (.ref f_BadRoom_init) = true)
    (BadRoom_no_part : PySem.W.findIn K (.ref CBadRoom) "part" = some none)
    (g_Misfit : PySem.W.nsIn K mainGlobals "Misfit" = some (some (.ref CMisfit)))
    (x_Misfit : K.lookup CMisfit = some (excClassObj nm_Misfit qn_Misfit CMisfit N_Misfit bs_Misfit [.ref CMirrorError, .type "ValueError", .type "Exception", .type "BaseException", .type "object"] true sn_Misfit sub_Misfit ab_Misfit col_Misfit dd_Misfit m0_Misfit m1_Misfit m2_Misfit m3_Misfit m5_Misfit "ValueError.__new__"))
    (Misfit_sa : PySem.W.findIn K (.ref CMisfit) "__setattr__" = some (some (.builtin "object.__setattr__")))
    (Misfit_ex : PySem.W.subIn K (.ref CMisfit) (.type "BaseException") = some true)
    (Misfit_ty : PySem.W.typeIn K (.ref CMisfit) = some (.type "type"))
    (Misfit_kp : PySem.W.keepIn K (.ref CMisfit) = true)
    (Misfit_ga : PySem.W.findIn K (.ref CMisfit) "__getattribute__" = some (some (.builtin "BaseException.__getattribute__")))
    (Misfit_gg : PySem.W.findIn K (.ref CMisfit) "__getattr__" = some none)
    (Misfit_hd : PySem.W.hasDictIn K CMisfit = true)
    (Misfit_ca : PySem.W.findIn K (.ref CMisfit) "__class__" = some (some (.builtin "object.__class__")))
    (Misfit_ob : PySem.W.mroIn K CMisfit (.type "object") = some true)
    (i_Misfit_init : PySem.W.findIn K (.ref CMisfit) "__init__" = some (some (.ref f_Misfit_init)))
    (ti_Misfit_init : PySem.W.typeIn K (.ref f_Misfit_init) = some (.type "function"))
    (l_Misfit_init : K.lookup f_Misfit_init = some ⟨oc_Misfit_init, od_Misfit_init, .func (PySem.W.fnOf "__init__" "Misfit.__init__" (defArgs s_Misfit_init) (defBody s_Misfit_init) (defScope s_Misfit_init) .none kV_Misfit_init dc_Misfit_init pm_Misfit_init an_Misfit_init cd_Misfit_init ct_Misfit_init), sl_Misfit_init⟩)
    (c_Misfit_init : PySem.W.codeIn K cd_Misfit_init "Misfit.__init__" = true)
    (k_Misfit_init : PySem.W.keepIn K (.ref f_Misfit_init) = true)
    (Misfit_no_part : PySem.W.findIn K (.ref CMisfit) "part" = some none)
    (em_BadRoom : PySem.W.exmOne K (.ref CBadRoom) (.ref CMirrorError) = some true)
    (kBB : PySem.W.kitOne K (.ref CBadRoom) (.ref CBadRoom) = some true)
    (kNB : PySem.W.kitOne K (.type "NoneType") (.ref CBadRoom) = some false)
    (kRR : PySem.W.kitOne K (.ref CRoom) (.ref CRoom) = some true)
    (kR_NoneType : PySem.W.kitOne K (.type "NoneType") (.ref CRoom) = some false)
    (kR_bool : PySem.W.kitOne K (.type "bool") (.ref CRoom) = some false)
    (kR_int : PySem.W.kitOne K (.type "int") (.ref CRoom) = some false)
    (kR_str : PySem.W.kitOne K (.type "str") (.ref CRoom) = some false)
    (kR_list : PySem.W.kitOne K (.type "list") (.ref CRoom) = some false)
    (kR_tuple : PySem.W.kitOne K (.type "tuple") (.ref CRoom) = some false)
    (g_STEPS : PySem.W.nsIn K mainGlobals "STEPS" = some (some (.ref aST)))
    (g_ENDS : PySem.W.nsIn K mainGlobals "ENDS" = some (some (.ref aEN)))
    (o_aST : K.lookup aST = some ⟨.type "tuple", none, .seq #[.ref aST_0, .ref aST_1, .ref aST_2, .ref aST_3] n_aST, sl_aST⟩)
    (o_aST_0 : K.lookup aST_0 = some ⟨.type "tuple", none, .seq #[.int 1 tq1, .int 0 tq2] n_aST_0, sl_aST_0⟩)
    (o_aST_1 : K.lookup aST_1 = some ⟨.type "tuple", none, .seq #[.int 0 tq3, .int 1 tq4] n_aST_1, sl_aST_1⟩)
    (o_aST_2 : K.lookup aST_2 = some ⟨.type "tuple", none, .seq #[.int (-1) tq5, .int 0 tq6] n_aST_2, sl_aST_2⟩)
    (o_aST_3 : K.lookup aST_3 = some ⟨.type "tuple", none, .seq #[.int 0 tq7, .int (-1) tq8] n_aST_3, sl_aST_3⟩)
    (o_aEN : K.lookup aEN = some ⟨.type "tuple", none, .seq #[.ref aEN_0, .ref aEN_1, .ref aEN_2, .ref aEN_3] n_aEN, sl_aEN⟩)
    (o_aEN_0 : K.lookup aEN_0 = some ⟨.type "tuple", none, .seq #[.ref aEN_0_0, .ref aEN_0_1] n_aEN_0, sl_aEN_0⟩)
    (o_aEN_0_0 : K.lookup aEN_0_0 = some ⟨.type "tuple", none, .seq #[.int 1 tq9, .int 0 tq10] n_aEN_0_0, sl_aEN_0_0⟩)
    (o_aEN_0_1 : K.lookup aEN_0_1 = some ⟨.type "tuple", none, .seq #[.int 1 tq11, .int 1 tq12] n_aEN_0_1, sl_aEN_0_1⟩)
    (o_aEN_1 : K.lookup aEN_1 = some ⟨.type "tuple", none, .seq #[.ref aEN_1_0, .ref aEN_1_1] n_aEN_1, sl_aEN_1⟩)
    (o_aEN_1_0 : K.lookup aEN_1_0 = some ⟨.type "tuple", none, .seq #[.int 0 tq13, .int 1 tq14] n_aEN_1_0, sl_aEN_1_0⟩)
    (o_aEN_1_1 : K.lookup aEN_1_1 = some ⟨.type "tuple", none, .seq #[.int 1 tq15, .int 1 tq16] n_aEN_1_1, sl_aEN_1_1⟩)
    (o_aEN_2 : K.lookup aEN_2 = some ⟨.type "tuple", none, .seq #[.ref aEN_2_0, .ref aEN_2_1] n_aEN_2, sl_aEN_2⟩)
    (o_aEN_2_0 : K.lookup aEN_2_0 = some ⟨.type "tuple", none, .seq #[.int 0 tq17, .int 0 tq18] n_aEN_2_0, sl_aEN_2_0⟩)
    (o_aEN_2_1 : K.lookup aEN_2_1 = some ⟨.type "tuple", none, .seq #[.int 0 tq19, .int 1 tq20] n_aEN_2_1, sl_aEN_2_1⟩)
    (o_aEN_3 : K.lookup aEN_3 = some ⟨.type "tuple", none, .seq #[.ref aEN_3_0, .ref aEN_3_1] n_aEN_3, sl_aEN_3⟩)
    (o_aEN_3_0 : K.lookup aEN_3_0 = some ⟨.type "tuple", none, .seq #[.int 0 tq21, .int 0 tq22] n_aEN_3_0, sl_aEN_3_0⟩)
    (o_aEN_3_1 : K.lookup aEN_3_1 = some ⟨.type "tuple", none, .seq #[.int 1 tq23, .int 0 tq24] n_aEN_3_1, sl_aEN_3_1⟩)
    (o_aE : K.lookup aE = some ⟨.type "tuple", none, .seq #[] n_aE, sl_aE⟩)
    (n_isinstance : PySem.W.nsIn K mainGlobals "isinstance" = some none)
    (n_int : PySem.W.nsIn K mainGlobals "int" = some none)
    (n_bool : PySem.W.nsIn K mainGlobals "bool" = some none)
    (n_list : PySem.W.nsIn K mainGlobals "list" = some none)
    (n_tuple : PySem.W.nsIn K mainGlobals "tuple" = some none)
    (n_len : PySem.W.nsIn K mainGlobals "len" = some none)
    (n_sorted : PySem.W.nsIn K mainGlobals "sorted" = some none)
    (n_range : PySem.W.nsIn K mainGlobals "range" = some none)
    (n_abs : PySem.W.nsIn K mainGlobals "abs" = some none)
    (n_all : PySem.W.nsIn K mainGlobals "all" = some none)
    (n_set : PySem.W.nsIn K mainGlobals "set" = some none)
    (n_enumerate : PySem.W.nsIn K mainGlobals "enumerate" = some none)
    (n_max : PySem.W.nsIn K mainGlobals "max" = some none)
    (n_repr : PySem.W.nsIn K mainGlobals "repr" = some none)
    (n_str : PySem.W.nsIn K mainGlobals "str" = some none)
    (v_FARTHEST_SQUARE : PySem.W.nsIn K mainGlobals "FARTHEST_SQUARE" = some (some (.int 99 tc99)))
    (v_MOST_SQUARES : PySem.W.nsIn K mainGlobals "MOST_SQUARES" = some (some (.int 8 tc8)))
    (v_MOST_FINE : PySem.W.nsIn K mainGlobals "MOST_FINE" = some (some (.int 24 tc24)))
    : LawT l w K 8 63 "script" mg fa h := by
  have e := hfa.symm.trans (PySem.W.mg_of X G a24)
  cases e
  have F0 := fun_mk (st := s_is_integer) l0 c0 k0
  have D_is_integer : Df K mg "is_integer" s_is_integer ["value"] f0 _ := ⟨F0, PySem.W.mg_of X G a0, F0.binds (ps := ["value"]) fun _ _ _ _ _ _ us hl => match us, hl with | [_], _ => rfl⟩
  have F1 := fun_mk (st := s_is_within) l1 c1 k1
  have D_is_within : Df K mg "is_within" s_is_within ["value", "least", "most"] f1 _ := ⟨F1, PySem.W.mg_of X G a1, F1.binds (ps := ["value", "least", "most"]) fun _ _ _ _ _ _ us hl => match us, hl with | [_, _, _], _ => rfl⟩
  have F2 := fun_mk (st := s_is_row) l2 c2 k2
  have D_is_row : Df K mg "is_row" s_is_row ["value"] f2 _ := ⟨F2, PySem.W.mg_of X G a2, F2.binds (ps := ["value"]) fun _ _ _ _ _ _ us hl => match us, hl with | [_], _ => rfl⟩
  have F3 := fun_mk (st := s_is_point) l3 c3 k3
  have D_is_point : Df K mg "is_point" s_is_point ["value"] f3 _ := ⟨F3, PySem.W.mg_of X G a3, F3.binds (ps := ["value"]) fun _ _ _ _ _ _ us hl => match us, hl with | [_], _ => rfl⟩
  have F4 := fun_mk (st := s_is_square) l4 c4 k4
  have D_is_square : Df K mg "is_square" s_is_square ["value"] f4 _ := ⟨F4, PySem.W.mg_of X G a4, F4.binds (ps := ["value"]) fun _ _ _ _ _ _ us hl => match us, hl with | [_], _ => rfl⟩
  have F5 := fun_mk (st := s_side_told) l5 c5 k5
  have D_side_told : Df K mg "side_told" s_side_told ["value", "squares"] f5 _ := ⟨F5, PySem.W.mg_of X G a5, F5.binds (ps := ["value", "squares"]) fun _ _ _ _ _ _ us hl => match us, hl with | [_, _], _ => rfl⟩
  have F6 := fun_mk (st := s_hang_together) l6 c6 k6
  have D_hang_together : Df K mg "hang_together" s_hang_together ["squares", "shut"] f6 _ := ⟨F6, PySem.W.mg_of X G a6, F6.binds (ps := ["squares", "shut"]) fun _ _ _ _ _ _ us hl => match us, hl with | [_, _], _ => rfl⟩
  have F7 := fun_mk (st := s_need_room) l7 c7 k7
  have D_need_room : Df K mg "need_room" s_need_room ["room", "part"] f7 _ := ⟨F7, PySem.W.mg_of X G a7, F7.binds (ps := ["room", "part"]) fun _ _ _ _ _ _ us hl => match us, hl with | [_, _], _ => rfl⟩
  have F8 := fun_mk (st := s__squares_told) l8 c8 k8
  have D__squares_told : Df K mg "_squares_told" s__squares_told ["value"] f8 _ := ⟨F8, PySem.W.mg_of X G a8, F8.binds (ps := ["value"]) fun _ _ _ _ _ _ us hl => match us, hl with | [_], _ => rfl⟩
  have F9 := fun_mk (st := s__shut_told) l9 c9 k9
  have D__shut_told : Df K mg "_shut_told" s__shut_told ["value", "squares"] f9 _ := ⟨F9, PySem.W.mg_of X G a9, F9.binds (ps := ["value", "squares"]) fun _ _ _ _ _ _ us hl => match us, hl with | [_, _], _ => rfl⟩
  have F10 := fun_mk (st := s__number_beyond) l10 c10 k10
  have D__number_beyond : Df K mg "_number_beyond" s__number_beyond ["squares", "shut", "square", "side"] f10 _ := ⟨F10, PySem.W.mg_of X G a10, F10.binds (ps := ["squares", "shut", "square", "side"]) fun _ _ _ _ _ _ us hl => match us, hl with | [_, _, _, _], _ => rfl⟩
  have F11 := fun_mk (st := s__all_beyond) l11 c11 k11
  have D__all_beyond : Df K mg "_all_beyond" s__all_beyond ["squares", "shut"] f11 _ := ⟨F11, PySem.W.mg_of X G a11, F11.binds (ps := ["squares", "shut"]) fun _ _ _ _ _ _ us hl => match us, hl with | [_, _], _ => rfl⟩
  have F12 := fun_mk (st := s_open_sides) l12 c12 k12
  have D_open_sides : Df K mg "open_sides" s_open_sides ["room"] f12 _ := ⟨F12, PySem.W.mg_of X G a12, F12.binds (ps := ["room"]) fun _ _ _ _ _ _ us hl => match us, hl with | [_], _ => rfl⟩
  have F13 := fun_mk (st := s_walls_of) l13 c13 k13
  have D_walls_of : Df K mg "walls_of" s_walls_of ["room"] f13 _ := ⟨F13, PySem.W.mg_of X G a13, F13.binds (ps := ["room"]) fun _ _ _ _ _ _ us hl => match us, hl with | [_], _ => rfl⟩
  have F14 := fun_mk (st := s__law_mason) l14 c14 k14
  have D__law_mason : Df K mg "_law_mason" s__law_mason ["script"] f14 _ := ⟨F14, PySem.W.mg_of X G a14, F14.binds (ps := ["script"]) fun _ _ _ _ _ _ us hl => match us, hl with | [_], _ => rfl⟩
  have F15 := fun_mk (st := s__law_trowel) l15 c15 k15
  have D__law_trowel : Df K mg "_law_trowel" s__law_trowel ["mason", "many"] f15 _ := ⟨F15, PySem.W.mg_of X G a15, F15.binds (ps := ["mason", "many"]) fun _ _ _ _ _ _ us hl => match us, hl with | [_, _], _ => rfl⟩
  have F16 := fun_mk (st := s__law_brick) l16 c16 k16
  have D__law_brick : Df K mg "_law_brick" s__law_brick ["mason", "some"] f16 _ := ⟨F16, PySem.W.mg_of X G a16, F16.binds (ps := ["mason", "some"]) fun _ _ _ _ _ _ us hl => match us, hl with | [_, _], _ => rfl⟩
  have F17 := fun_mk (st := s__law_beside) l17 c17 k17
  have D__law_beside : Df K mg "_law_beside" s__law_beside ["square"] f17 _ := ⟨F17, PySem.W.mg_of X G a17, F17.binds (ps := ["square"]) fun _ _ _ _ _ _ us hl => match us, hl with | [_], _ => rfl⟩
  have F18 := fun_mk (st := s__law_side) l18 c18 k18
  have D__law_side : Df K mg "_law_side" s__law_side ["one", "other"] f18 _ := ⟨F18, PySem.W.mg_of X G a18, F18.binds (ps := ["one", "other"]) fun _ _ _ _ _ _ us hl => match us, hl with | [_, _], _ => rfl⟩
  have F19 := fun_mk (st := s__law_hangs) l19 c19 k19
  have D__law_hangs : Df K mg "_law_hangs" s__law_hangs ["squares", "shut"] f19 _ := ⟨F19, PySem.W.mg_of X G a19, F19.binds (ps := ["squares", "shut"]) fun _ _ _ _ _ _ us hl => match us, hl with | [_, _], _ => rfl⟩
  have F20 := fun_mk (st := s__law_sides) l20 c20 k20
  have D__law_sides : Df K mg "_law_sides" s__law_sides ["squares"] f20 _ := ⟨F20, PySem.W.mg_of X G a20, F20.binds (ps := ["squares"]) fun _ _ _ _ _ _ us hl => match us, hl with | [_], _ => rfl⟩
  have F21 := fun_mk (st := s__law_room) l21 c21 k21
  have D__law_room : Df K mg "_law_room" s__law_room ["mason", "most"] f21 _ := ⟨F21, PySem.W.mg_of X G a21, F21.binds (ps := ["mason", "most"]) fun _ _ _ _ _ _ us hl => match us, hl with | [_, _], _ => rfl⟩
  have F22 := fun_mk (st := s__law_heard) l22 c22 k22
  have D__law_heard : Df K mg "_law_heard" s__law_heard ["ask"] f22 _ := ⟨F22, PySem.W.mg_of X G a22, F22.binds (ps := ["ask"]) fun _ _ _ _ _ _ us hl => match us, hl with | [_], _ => rfl⟩
  have F23 := fun_mk (st := s__law_ends) l23 c23 k23
  have D__law_ends : Df K mg "_law_ends" s__law_ends ["one", "other"] f23 _ := ⟨F23, PySem.W.mg_of X G a23, F23.binds (ps := ["one", "other"]) fun _ _ _ _ _ _ us hl => match us, hl with | [_, _], _ => rfl⟩
  have F24 := fun_mk (st := s_law) l24 c24 k24
  have FD_Room : FunD K "__init__" "Room.__init__" (defArgs s_Room_init) (defBody s_Room_init) (defScope s_Room_init) [V.ref aE, .int 1] [] f_Room_init (PySem.W.fnOf "__init__" "Room.__init__" (defArgs s_Room_init) (defBody s_Room_init) (defScope s_Room_init) (.ref aDf_Room) kV_Room_init dc_Room_init pm_Room_init an_Room_init cd_Room_init ct_Room_init) := ⟨⟨oc_Room_init, od_Room_init, .ref aDf_Room, kV_Room_init, dc_Room_init, pm_Room_init, an_Room_init, cd_Room_init, ct_Room_init, sl_Room_init, rfl, l_Room_init, c_Room_init, .inr ⟨by simp, aDf_Room, _, [.ref aE, .int 1 tkE], nDf_Room, rfl, df_Room, rfl, .cons rfl (.cons ⟨_, rfl⟩ .nil)⟩, .inl rfl⟩, k_Room_init⟩
  obtain ⟨ds3, v3, B3⟩ := FD_Room.binds1 (ps := ["self", "squares", "shut", "fine"]) 4 2 (by simp) rfl fun T kV doc pm an cdv ct us its hl hi => match us, its, hl, hi with | [_, _, _, _], [_, _], _, _ => ⟨_, rfl, rfl⟩
  have B_Room_3 : Binds K (PySem.W.fnOf "__init__" "Room.__init__" (defArgs s_Room_init) (defBody s_Room_init) (defScope s_Room_init) (.ref aDf_Room) kV_Room_init dc_Room_init pm_Room_init an_Room_init cd_Room_init ct_Room_init) ["self", "squares", "shut", "fine"] [] := by
    cases v3
    exact B3
  obtain ⟨ds1, v1, B1⟩ := FD_Room.binds1 (ps := ["self", "squares", "shut", "fine"]) 2 0 (by simp) rfl fun T kV doc pm an cdv ct us its hl hi => match us, its, hl, hi with | [_, _], [_, _], _, _ => ⟨_, rfl, rfl⟩
  obtain ⟨tkF, B_Room_1⟩ : ∃ t : Tok, Binds K (PySem.W.fnOf "__init__" "Room.__init__" (defArgs s_Room_init) (defBody s_Room_init) (defScope s_Room_init) (.ref aDf_Room) kV_Room_init dc_Room_init pm_Room_init an_Room_init cd_Room_init ct_Room_init) ["self", "squares", "shut", "fine"] [.ref aE, .int 1 t] := by
    cases v1 with
    | cons a r =>
      cases r with
      | cons b r =>
        cases r
        cases a
        obtain ⟨t, rfl⟩ := b
        exact ⟨t, B1⟩
  have st_Room : StrC K CRoom f_Room_str := ⟨i_Room_str, e_Room_str⟩
  have F_Room_str := fun_mk (x := "__str__") (qual := "Room.__str__") (st := s_Room_str) l_Room_str c_Room_str k_Room_str
  have B_Room_str : Binds K _ ["self"] [] := F_Room_str.binds (ps := ["self"]) fun _ _ _ _ _ _ us hl => match us, hl with | [_], _ => rfl
  have M_Room : Mk K CRoom f_Room_init := ⟨Room_mk, i_Room_init, e_Room_init, Room_kp⟩
  have cl_Room : Cls K CRoom := ⟨Room_pg, Room_hd, Room_po, Room_sa⟩
  have F_BadRoom_init := fun_mk (x := "__init__") (qual := "BadRoom.__init__") (st := s_BadRoom_init) l_BadRoom_init c_BadRoom_init k_BadRoom_init
  have E_BadRoom : ErrC K mg "BadRoom" CBadRoom f_BadRoom_init _ "BadRoom.__init__" s_BadRoom_init ["self", "part"] := ⟨⟨⟨_, _, _, _, _, _, _, _, _, _, _, _, _, _, _, x_BadRoom, rfl⟩, BadRoom_sa, BadRoom_ex, BadRoom_ty, BadRoom_kp⟩, i_BadRoom_init, ti_BadRoom_init, F_BadRoom_init, F_BadRoom_init.binds (ps := ["self", "part"]) fun _ _ _ _ _ _ us hl => match us, hl with | [_, _], _ => rfl, PySem.W.mg_of X G g_BadRoom, ⟨BadRoom_ga, BadRoom_gg, BadRoom_ex, BadRoom_hd, BadRoom_ca, obj_g, obj_t, BadRoom_ob⟩, ⟨BadRoom_ga, BadRoom_gg, BadRoom_ex, BadRoom_hd⟩⟩
  have F_Misfit_init := fun_mk (x := "__init__") (qual := "Misfit.__init__") (st := s_Misfit_init) l_Misfit_init c_Misfit_init k_Misfit_init
  have E_Misfit : ErrC K mg "Misfit" CMisfit f_Misfit_init _ "Misfit.__init__" s_Misfit_init ["self", "part"] := ⟨⟨⟨_, _, _, _, _, _, _, _, _, _, _, _, _, _, _, x_Misfit, rfl⟩, Misfit_sa, Misfit_ex, Misfit_ty, Misfit_kp⟩, i_Misfit_init, ti_Misfit_init, F_Misfit_init, F_Misfit_init.binds (ps := ["self", "part"]) fun _ _ _ _ _ _ us hl => match us, hl with | [_, _], _ => rfl, PySem.W.mg_of X G g_Misfit, ⟨Misfit_ga, Misfit_gg, Misfit_ex, Misfit_hd, Misfit_ca, obj_g, obj_t, Misfit_ob⟩, ⟨Misfit_ga, Misfit_gg, Misfit_ex, Misfit_hd⟩⟩
  have kST : KTree K mg "STEPS" aST dSTEPS := ⟨PySem.W.mg_of X G g_STEPS, fun F => (plK (xs := [V.ref aST_0, V.ref aST_1, V.ref aST_2, V.ref aST_3]) o_aST (show 4 ≤ sizeLine by decide) (.cons rfl (.cons rfl (.cons rfl (.cons rfl .nil)))) (.cons (plK (xs := [V.int (1), V.int (0)]) o_aST_0 (show 2 ≤ sizeLine by decide) (.cons ⟨_, rfl⟩ (.cons ⟨_, rfl⟩ .nil)) (.cons (.int _) (.cons (.int _) .nil))) (.cons (plK (xs := [V.int (0), V.int (1)]) o_aST_1 (show 2 ≤ sizeLine by decide) (.cons ⟨_, rfl⟩ (.cons ⟨_, rfl⟩ .nil)) (.cons (.int _) (.cons (.int _) .nil))) (.cons (plK (xs := [V.int (-1), V.int (0)]) o_aST_2 (show 2 ≤ sizeLine by decide) (.cons ⟨_, rfl⟩ (.cons ⟨_, rfl⟩ .nil)) (.cons (.int _) (.cons (.int _) .nil))) (.cons (plK (xs := [V.int (0), V.int (-1)]) o_aST_3 (show 2 ≤ sizeLine by decide) (.cons ⟨_, rfl⟩ (.cons ⟨_, rfl⟩ .nil)) (.cons (.int _) (.cons (.int _) .nil))) .nil)))))⟩
  have kEN : KTree K mg "ENDS" aEN dENDS := ⟨PySem.W.mg_of X G g_ENDS, fun F => (plK (xs := [V.ref aEN_0, V.ref aEN_1, V.ref aEN_2, V.ref aEN_3]) o_aEN (show 4 ≤ sizeLine by decide) (.cons rfl (.cons rfl (.cons rfl (.cons rfl .nil)))) (.cons (plK (xs := [V.ref aEN_0_0, V.ref aEN_0_1]) o_aEN_0 (show 2 ≤ sizeLine by decide) (.cons rfl (.cons rfl .nil)) (.cons (plK (xs := [V.int (1), V.int (0)]) o_aEN_0_0 (show 2 ≤ sizeLine by decide) (.cons ⟨_, rfl⟩ (.cons ⟨_, rfl⟩ .nil)) (.cons (.int _) (.cons (.int _) .nil))) (.cons (plK (xs := [V.int (1), V.int (1)]) o_aEN_0_1 (show 2 ≤ sizeLine by decide) (.cons ⟨_, rfl⟩ (.cons ⟨_, rfl⟩ .nil)) (.cons (.int _) (.cons (.int _) .nil))) .nil))) (.cons (plK (xs := [V.ref aEN_1_0, V.ref aEN_1_1]) o_aEN_1 (show 2 ≤ sizeLine by decide) (.cons rfl (.cons rfl .nil)) (.cons (plK (xs := [V.int (0), V.int (1)]) o_aEN_1_0 (show 2 ≤ sizeLine by decide) (.cons ⟨_, rfl⟩ (.cons ⟨_, rfl⟩ .nil)) (.cons (.int _) (.cons (.int _) .nil))) (.cons (plK (xs := [V.int (1), V.int (1)]) o_aEN_1_1 (show 2 ≤ sizeLine by decide) (.cons ⟨_, rfl⟩ (.cons ⟨_, rfl⟩ .nil)) (.cons (.int _) (.cons (.int _) .nil))) .nil))) (.cons (plK (xs := [V.ref aEN_2_0, V.ref aEN_2_1]) o_aEN_2 (show 2 ≤ sizeLine by decide) (.cons rfl (.cons rfl .nil)) (.cons (plK (xs := [V.int (0), V.int (0)]) o_aEN_2_0 (show 2 ≤ sizeLine by decide) (.cons ⟨_, rfl⟩ (.cons ⟨_, rfl⟩ .nil)) (.cons (.int _) (.cons (.int _) .nil))) (.cons (plK (xs := [V.int (0), V.int (1)]) o_aEN_2_1 (show 2 ≤ sizeLine by decide) (.cons ⟨_, rfl⟩ (.cons ⟨_, rfl⟩ .nil)) (.cons (.int _) (.cons (.int _) .nil))) .nil))) (.cons (plK (xs := [V.ref aEN_3_0, V.ref aEN_3_1]) o_aEN_3 (show 2 ≤ sizeLine by decide) (.cons rfl (.cons rfl .nil)) (.cons (plK (xs := [V.int (0), V.int (0)]) o_aEN_3_0 (show 2 ≤ sizeLine by decide) (.cons ⟨_, rfl⟩ (.cons ⟨_, rfl⟩ .nil)) (.cons (.int _) (.cons (.int _) .nil))) (.cons (plK (xs := [V.int (1), V.int (0)]) o_aEN_3_1 (show 2 ≤ sizeLine by decide) (.cons ⟨_, rfl⟩ (.cons ⟨_, rfl⟩ .nil)) (.cons (.int _) (.cons (.int _) .nil))) .nil))) .nil)))))⟩
  have hE : ∀ F, Rp K F (.ref aE) (.tup []) := fun F => (plK (xs := []) o_aE (show 0 ≤ sizeLine by decide) .nil .nil)
  have iR : IsiOk K (.ref CRoom) (isBC CRoom true (isBk noB)) := isi_C ⟨cl_Room, Room_ca, obj_g, obj_t, Room_ob⟩ kRR (isi_of fun S b h => by
    unfold noB at h
    split at h
    · rename_i z
      cases h
      rcases z with rfl | rfl | rfl | rfl | rfl | rfl
      · exact kR_NoneType
      · exact kR_bool
      · exact kR_int
      · exact kR_str
      · exact kR_list
      · exact kR_tuple
    · cases h)
  have T1 : Txt K mg tc99 aST := ⟨PySem.W.mg_none_of X G n_isinstance, PySem.W.mg_none_of X G n_int, PySem.W.mg_none_of X G n_bool, PySem.W.mg_none_of X G n_list, PySem.W.mg_none_of X G n_tuple, PySem.W.mg_none_of X G n_len, PySem.W.mg_none_of X G n_sorted, PySem.W.mg_none_of X G n_range, kST, PySem.W.mg_of X G v_FARTHEST_SQUARE⟩
  have T : Txt2 K mg tc99 aST aEN CRoom CBadRoom CMisfit f_BadRoom_init f_Misfit_init _ _ := ⟨T1, PySem.W.mg_none_of X G n_abs, PySem.W.mg_none_of X G n_all, PySem.W.mg_none_of X G n_set, PySem.W.mg_none_of X G n_enumerate, PySem.W.mg_none_of X G n_max, PySem.W.mg_none_of X G n_repr, PySem.W.mg_none_of X G n_str, tkO_of (PySem.W.mg_of X G v_MOST_SQUARES), tkO_of (PySem.W.mg_of X G v_MOST_FINE), cl_Room, Room_no_squares, Room_no_shut, Room_no_fine, Room_no_many, Room_no_beyond, kEN, iR, PySem.W.mg_of X G g_Room, E_BadRoom, E_Misfit, BadRoom_no_part, Misfit_no_part⟩
  have TH : TxtH K mg CBadRoom CMirrorError := ⟨PySem.W.mg_of X G g_MirrorError, PySem.W.mg_of X G g_BadRoom, PySem.W.mg_none_of X G n_isinstance, PySem.W.mg_none_of X G n_len, em_BadRoom, kBB, kNB⟩
  have KB_open_sides : KBn K _ ["room"] 0 ["room"] kwO kwO := ⟨fun s us ws _ l1 l2 => match us, ws, l1, l2 with | [], [_], _, _ => .of_eq (show bindArgs (PySem.W.fnOf "open_sides" "open_sides" (defArgs s_open_sides) (defBody s_open_sides) (defScope s_open_sides) .none kV12 dc12 pm12 an12 cd12 ct12) _ = _ from rfl), fun _ r => r⟩
  have KB_walls_of : KBn K _ ["room"] 0 ["room"] kwO kwO := ⟨fun s us ws _ l1 l2 => match us, ws, l1, l2 with | [], [_], _, _ => .of_eq (show bindArgs (PySem.W.fnOf "walls_of" "walls_of" (defArgs s_walls_of) (defBody s_walls_of) (defScope s_walls_of) .none kV13 dc13 pm13 an13 cd13 ct13) _ = _ from rfl), fun _ r => r⟩
  obtain ⟨TT, hTT⟩ : ∃ TT : List (Addr × Str), TT = [(P24, (("law" : Str) ++ ".<locals>.") ++ "<lambda>")] := ⟨_, rfl⟩
  have uL : ∀ p ∈ TT, p.1 = P24 → p.2 = (("law" : Str) ++ ".<locals>.") ++ "<lambda>" := fun p hp e => by
    rw [hTT] at hp
    rw [List.mem_singleton.mp hp]
  refine ⟨PySem.W.fnOf "law" "law" (defArgs s_law) (defBody s_law) (defScope s_law) .none kV24 dc24 pm24 an24 (.ref cA24) ct24, [(cA24, P24)], spLaw K TT, fun p hp => ?_, fun s v => .of_eq rfl, fun H a ns hl tab hS => ⟨a, ns, rfl, hS, hl, fun p hp => ?_, fun _ => rfl⟩, fun base _ _ tb => ?_⟩
  · rw [List.mem_singleton.mp hp]
    exact ⟨t24, n24, PySem.W.codeHd_of_K X h24⟩
  · rw [hTT] at hp
    rw [List.mem_singleton.mp hp]
    exact TabS.nil (tab (cA24, P24) List.mem_cons_self)
  · have GI := ok_Room_init (P := l.prog) (w := w) (base := base) D_is_integer D_is_within D_is_row D_is_point D_is_square D_side_told D__squares_told D__shut_told D__number_beyond D__all_beyond D_hang_together FD_Room T
    have GS := ok_Room_str (P := l.prog) (w := w) (base := base) F_Room_str T
    have GO := ok_open_sides (P := l.prog) (w := w) (base := base) D_need_room D_open_sides.F T
    have GW := ok_walls_of (P := l.prog) (w := w) (base := base) D_need_room D_walls_of.F T
    exact ok_law F24 D__law_mason D__law_trowel D__law_brick D__law_beside D__law_side D__law_hangs D__law_sides D__law_room D__law_heard D__law_ends D_open_sides D_walls_of GO GW KB_open_sides KB_walls_of M_Room GI B_Room_3 B_Room_1 hE GS B_Room_str st_Room T TH rfl (tb (cA24, P24) List.mem_cons_self) (by rw [hTT]; exact List.mem_cons_self) uL
end K06
open PySem PySem.W PyProof.Rows
set_option maxRecDepth 100000 in
set_option maxHeartbeats 0 in
theorem PySem.Challenge.cw_neverhit_k06_open_sides_and_walls_holds : PySem.Challenge.rw_neverhit_k06_open_sides_and_walls.Holds := by
  w_on; o_law; k_head; (case hw => w_witness2)
  k_fill
  refine Nv.walkGT (l := PySem.Challenge.rw_neverhit_k06_open_sides_and_walls) (n := 63) (k := 8) (x := "script") rfl (by decide) rfl ⟨rfl, by decide, by decide⟩ (fun w h Y => PySem.W.km_in_of Y) ?F
  case F =>
    intro w mg fa h Y KX G hmg
    have tabs := PySem.W.km_tabs_of Y
    refine' K06.all_mk KX G hmg ?a0 ?l0 ?c0 ?k0 ?a1 ?l1 ?c1 ?k1 ?a2 ?l2 ?c2 ?k2 ?a3 ?l3 ?c3 ?k3 ?a4 ?l4 ?c4 ?k4 ?a5 ?l5 ?c5 ?k5 ?a6 ?l6 ?c6 ?k6 ?a7 ?l7 ?c7 ?k7 ?a8 ?l8 ?c8 ?k8 ?a9 ?l9 ?c9 ?k9 ?a10 ?l10 ?c10 ?k10 ?a11 ?l11 ?c11 ?k11 ?a12 ?l12 ?c12 ?k12 ?a13 ?l13 ?c13 ?k13 ?a14 ?l14 ?c14 ?k14 ?a15 ?l15 ?c15 ?k15 ?a16 ?l16 ?c16 ?k16 ?a17 ?l17 ?c17 ?k17 ?a18 ?l18 ?c18 ?k18 ?a19 ?l19 ?c19 ?k19 ?a20 ?l20 ?c20 ?k20 ?a21 ?l21 ?c21 ?k21 ?a22 ?l22 ?c22 ?k22 ?a23 ?l23 ?c23 ?k23 ?a24 ?l24 ?c24 ?k24 ?q24 ?p24 ?h24 ?n24 ?t24 ?g_Room ?Room_pg ?Room_hd ?Room_po ?Room_sa ?Room_mk ?Room_kp ?Room_ne ?Room_ob ?Room_ca ?Room_no_squares ?Room_no_shut ?Room_no_fine ?Room_no_many ?Room_no_beyond ?i_Room_init ?l_Room_init ?c_Room_init ?k_Room_init ?e_Room_init ?i_Room_str ?l_Room_str ?c_Room_str ?k_Room_str ?e_Room_str ?df_Room ?obj_g ?obj_t ?g_MirrorError ?g_BadRoom ?x_BadRoom ?BadRoom_sa ?BadRoom_ex ?BadRoom_ty ?BadRoom_kp ?BadRoom_ga ?BadRoom_gg ?BadRoom_hd ?BadRoom_ca ?BadRoom_ob ?i_BadRoom_init ?ti_BadRoom_init ?l_BadRoom_init ?c_BadRoom_init ?k_BadRoom_init ?BadRoom_no_part ?g_Misfit ?x_Misfit ?Misfit_sa ?Misfit_ex ?Misfit_ty ?Misfit_kp ?Misfit_ga ?Misfit_gg ?Misfit_hd ?Misfit_ca ?Misfit_ob ?i_Misfit_init ?ti_Misfit_init ?l_Misfit_init ?c_Misfit_init ?k_Misfit_init ?Misfit_no_part ?em_BadRoom ?kBB ?kNB ?kRR ?kR_NoneType ?kR_bool ?kR_int ?kR_str ?kR_list ?kR_tuple ?g_STEPS ?g_ENDS ?o_aST ?o_aST_0 ?o_aST_1 ?o_aST_2 ?o_aST_3 ?o_aEN ?o_aEN_0 ?o_aEN_0_0 ?o_aEN_0_1 ?o_aEN_1 ?o_aEN_1_0 ?o_aEN_1_1 ?o_aEN_2 ?o_aEN_2_0 ?o_aEN_2_1 ?o_aEN_3 ?o_aEN_3_0 ?o_aEN_3_1 ?o_aE ?n_isinstance ?n_int ?n_bool ?n_list ?n_tuple ?n_len ?n_sorted ?n_range ?n_abs ?n_all ?n_set ?n_enumerate ?n_max ?n_repr ?n_str ?v_FARTHEST_SQUARE ?v_MOST_SQUARES ?v_MOST_FINE
    (case a0 => k_is)
    (case l0 => k_is)
    (case c0 => k_is)
    (case k0 => k_is)
    (case a1 => k_is)
    (case l1 => k_is)
    (case c1 => k_is)
    (case k1 => k_is)
    (case a2 => k_is)
    (case l2 => k_is)
    (case c2 => k_is)
    (case k2 => k_is)
    (case a3 => k_is)
    (case l3 => k_is)
    (case c3 => k_is)
    (case k3 => k_is)
    (case a4 => k_is)
    (case l4 => k_is)
    (case c4 => k_is)
    (case k4 => k_is)
    (case a5 => k_is)
    (case l5 => k_is)
    (case c5 => k_is)
    (case k5 => k_is)
    (case a6 => k_is)
    (case l6 => k_is)
    (case c6 => k_is)
    (case k6 => k_is)
    (case a7 => k_is)
    (case l7 => k_is)
    (case c7 => k_is)
    (case k7 => k_is)
    (case a8 => k_is)
    (case l8 => k_is)
    (case c8 => k_is)
    (case k8 => k_is)
    (case a9 => k_is)
    (case l9 => k_is)
    (case c9 => k_is)
    (case k9 => k_is)
    (case a10 => k_is)
    (case l10 => k_is)
    (case c10 => k_is)
    (case k10 => k_is)
    (case a11 => k_is)
    (case l11 => k_is)
    (case c11 => k_is)
    (case k11 => k_is)
    (case a12 => k_is)
    (case l12 => k_is)
    (case c12 => k_is)
    (case k12 => k_is)
    (case a13 => k_is)
    (case l13 => k_is)
    (case c13 => k_is)
    (case k13 => k_is)
    (case a14 => k_is)
    (case l14 => k_is)
    (case c14 => k_is)
    (case k14 => k_is)
    (case a15 => k_is)
    (case l15 => k_is)
    (case c15 => k_is)
    (case k15 => k_is)
    (case a16 => k_is)
    (case l16 => k_is)
    (case c16 => k_is)
    (case k16 => k_is)
    (case a17 => k_is)
    (case l17 => k_is)
    (case c17 => k_is)
    (case k17 => k_is)
    (case a18 => k_is)
    (case l18 => k_is)
    (case c18 => k_is)
    (case k18 => k_is)
    (case a19 => k_is)
    (case l19 => k_is)
    (case c19 => k_is)
    (case k19 => k_is)
    (case a20 => k_is)
    (case l20 => k_is)
    (case c20 => k_is)
    (case k20 => k_is)
    (case a21 => k_is)
    (case l21 => k_is)
    (case c21 => k_is)
    (case k21 => k_is)
    (case a22 => k_is)
    (case l22 => k_is)
    (case c22 => k_is)
    (case k22 => k_is)
    (case a23 => k_is)
    (case l23 => k_is)
    (case c23 => k_is)
    (case k23 => k_is)
    (case a24 => k_is)
    (case l24 => k_is)
    (case c24 => k_is)
    (case k24 => k_is)
    (case q24 => k_is)
    (case p24 => rfl)
    (case h24 => kernel_rfl)
    (case n24 => kernel_rfl)
    (case t24 => exact tabs _ (by first | k_mem | simp))
    (case g_Room => k_is)
    (case Room_pg => k_is)
    (case Room_hd => k_is)
    (case Room_po => k_is)
    (case Room_sa => k_is)
    (case Room_mk => k_is)
    (case Room_kp => k_is)
    (case Room_ne => k_is)
    (case Room_ob => k_is)
    (case Room_ca => k_is)
    (case Room_no_squares => k_is)
    (case Room_no_shut => k_is)
    (case Room_no_fine => k_is)
    (case Room_no_many => k_is)
    (case Room_no_beyond => k_is)
    (case i_Room_init => k_is)
    (case l_Room_init => k_is)
    (case c_Room_init => k_is)
    (case k_Room_init => k_is)
    (case e_Room_init => k_is)
    (case i_Room_str => k_is)
    (case l_Room_str => k_is)
    (case c_Room_str => k_is)
    (case k_Room_str => k_is)
    (case e_Room_str => k_is)
    (case df_Room => k_is)
    (case obj_g => k_is)
    (case obj_t => k_is)
    (case g_MirrorError => k_is)
    (case g_BadRoom => k_is)
    (case x_BadRoom => k_is)
    (case BadRoom_sa => k_is)
    (case BadRoom_ex => k_is)
    (case BadRoom_ty => k_is)
    (case BadRoom_kp => k_is)
    (case BadRoom_ga => k_is)
    (case BadRoom_gg => k_is)
    (case BadRoom_hd => k_is)
    (case BadRoom_ca => k_is)
    (case BadRoom_ob => k_is)
    (case i_BadRoom_init => k_is)
    (case ti_BadRoom_init => k_is)
    (case l_BadRoom_init => k_is)
    (case c_BadRoom_init => k_is)
    (case k_BadRoom_init => k_is)
    (case BadRoom_no_part => k_is)
    (case g_Misfit => k_is)
    (case x_Misfit => k_is)
    (case Misfit_sa => k_is)
    (case Misfit_ex => k_is)
    (case Misfit_ty => k_is)
    (case Misfit_kp => k_is)
    (case Misfit_ga => k_is)
    (case Misfit_gg => k_is)
    (case Misfit_hd => k_is)
    (case Misfit_ca => k_is)
    (case Misfit_ob => k_is)
    (case i_Misfit_init => k_is)
    (case ti_Misfit_init => k_is)
    (case l_Misfit_init => k_is)
    (case c_Misfit_init => k_is)
    (case k_Misfit_init => k_is)
    (case Misfit_no_part => k_is)
    (case em_BadRoom => first | k_is | kernel_rfl)
    (case kBB => first | k_is | kernel_rfl)
    (case kNB => first | k_is | kernel_rfl)
    (case kRR => first | k_is | kernel_rfl)
    (case kR_NoneType => first | k_is | kernel_rfl)
    (case kR_bool => first | k_is | kernel_rfl)
    (case kR_int => first | k_is | kernel_rfl)
    (case kR_str => first | k_is | kernel_rfl)
    (case kR_list => first | k_is | kernel_rfl)
    (case kR_tuple => first | k_is | kernel_rfl)
    (case g_STEPS => first | k_is | kernel_rfl)
    (case g_ENDS => first | k_is | kernel_rfl)
    (case o_aST => first | k_is | kernel_rfl)
    (case o_aST_0 => first | k_is | kernel_rfl)
    (case o_aST_1 => first | k_is | kernel_rfl)
    (case o_aST_2 => first | k_is | kernel_rfl)
    (case o_aST_3 => first | k_is | kernel_rfl)
    (case o_aEN => first | k_is | kernel_rfl)
    (case o_aEN_0 => first | k_is | kernel_rfl)
    (case o_aEN_0_0 => first | k_is | kernel_rfl)
    (case o_aEN_0_1 => first | k_is | kernel_rfl)
    (case o_aEN_1 => first | k_is | kernel_rfl)
    (case o_aEN_1_0 => first | k_is | kernel_rfl)
    (case o_aEN_1_1 => first | k_is | kernel_rfl)
    (case o_aEN_2 => first | k_is | kernel_rfl)
    (case o_aEN_2_0 => first | k_is | kernel_rfl)
    (case o_aEN_2_1 => first | k_is | kernel_rfl)
    (case o_aEN_3 => first | k_is | kernel_rfl)
    (case o_aEN_3_0 => first | k_is | kernel_rfl)
    (case o_aEN_3_1 => first | k_is | kernel_rfl)
    (case o_aE => first | k_is | kernel_rfl)
    (case n_isinstance => k_is)
    (case n_int => k_is)
    (case n_bool => k_is)
    (case n_list => k_is)
    (case n_tuple => k_is)
    (case n_len => k_is)
    (case n_sorted => k_is)
    (case n_range => k_is)
    (case n_abs => k_is)
    (case n_all => k_is)
    (case n_set => k_is)
    (case n_enumerate => k_is)
    (case n_max => k_is)
    (case n_repr => k_is)
    (case n_str => k_is)
    (case v_FARTHEST_SQUARE => k_is)
    (case v_MOST_SQUARES => k_is)
    (case v_MOST_FINE => k_is)

