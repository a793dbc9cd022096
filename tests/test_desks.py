"""Desks: each kind of line, what it does and answers, undo and redo, twins, desks read from lines."""

import unittest
from unittest import mock

from common import BLOCK, ELL, GATES, ODD, SLAB, AlwaysEqual, Checks, OwnList

from neverhit.changed import finer
from neverhit.desks import Desk
from neverhit.doors import darkened
from neverhit.errors import (
    BadLine, BadNumber, BadPlace, BadRoom, BadText, BadWay, BadWord, Misfit, NoName, TooMany, Twice,
)
from neverhit.guards import guards_of
from neverhit.nearest import shortest
from neverhit.places import points_in
from neverhit.rooms import Room

HALL = "fine 1 / 0 0 / 0 1 / 1 0 / 1 1"
ENDS = ["lamp hall 1 0", "wish hall 1 2"]
# every kind of line once, behind START
START = ["new a " + HALL, "lamp a 1 0", "wish a 1 2", "post a 2 1"]
DEEDS = ("new b fine 2 / 0 0", "copy c a", "shut a 0 0 0 1", "open a 0 1 0 0", "lamp a 1 1", "wish a 1 0", "post a 0 1",
         "drop a 2 1", "bare a", "guard a", "forget a")
ASKS = ("room a", "marks a", "seen a", "near a", "track a 0 1 0 1 2", "doors a 1")


def told(*lines):
    """A desk that was told some lines, and the answers."""
    desk = Desk()
    return desk, [desk.tell(line) for line in lines]


def hall(*lines):
    """A desk with a hall, its lamp and its wish, told some lines more."""
    return told("new hall " + HALL, *ENDS, *lines)[0]


def state(desk):
    """All that a desk tells of itself."""
    return (desk.lines(), [(name, str(desk.room(name)), desk.marks(name)) for name in desk.names()])


class Deeds(Checks):

    def test_a_hall_told_by_hand(self):
        desk, answers = told("new hall " + HALL, *ENDS, "seen hall", "post hall 2 1", "doors hall 1", "shut hall 0 1 0 0",
                             "seen hall", "room hall", "marks hall", "undo", "doors hall 0", "redo")
        self.assertEqual(["4", "0 2", "1 3", "lit", "1", "0 0 0 1", "1", "dark", HALL + " / shut 0 0 0 1",
                          "1 0 / 1 2 / 2 1", "shut hall 0 1 0 0", "no", "shut hall 0 1 0 0"], answers)
        self.assertEqual(((1, 0), (1, 2), ((2, 1),)), desk.marks("hall"))
        self.assertEqual(("hall",), desk.names())
        self.assertTrue(desk.room("hall") == Room(BLOCK, [((0, 0), (0, 1))]))

    def test_new_and_copy(self):
        desk, answers = told("new cell fine 24 / -99 99", "marks cell", "room cell", "copy b2 cell")
        self.assertEqual(["1", "- / - / -", "fine 24 / -99 99", "1"], answers)
        self.assertEqual((None, None, ()), desk.marks("cell"))
        desk = hall("post hall 2 1", "post hall 0 1", "copy twin hall", "lamp twin 1 1", "shut hall 0 0 0 1")
        # the copy goes on by itself, and so does what was copied
        self.assertEqual(((1, 1), (1, 2), ((0, 1), (2, 1))), desk.marks("twin"))
        self.assertEqual(((), (((0, 0), (0, 1)),)), (desk.room("twin").shut, desk.room("hall").shut))
        self.assertEqual(((1, 0), (1, 2), ((0, 1), (2, 1))), desk.marks("hall"))
        desk.tell("bare hall")
        self.assertEqual(2, len(desk.marks("twin")[2]))
        self.assertEqual("4", desk.tell("copy other twin"))
        self.assertEqual(("hall", "other", "twin"), desk.names())

    def test_shut_and_open(self):
        desk, answers = told("new g fine 1 / 0 0 / 0 1 / 1 0 / 1 1 / 2 0 / 2 1", "shut g 0 0 0 1", "shut g 1 1 1 0",
                             "open g 0 1 0 0", "open g 1 0 1 1", "room g")
        self.assertEqual(["6", "1", "2", "1", "0"], answers[:5])
        self.assertEqual(answers[5], str(Room(GATES[0])))
        self.assertEqual("1", desk.tell("shut g 1 0 1 1"))
        self.assertEqual((((1, 0), (1, 1)),), desk.room("g").shut)

    def test_lamp_and_wish(self):
        desk, answers = told("new hall " + HALL, "lamp hall 1 1", "lamp hall 1 1", "wish hall 0 1", "lamp hall 1 0",
                             "wish hall 1 1")
        self.assertEqual(["4", "0 1 2 3", "0 1 2 3", "0 1", "0 2", "0 1 2 3"], answers)
        self.assertEqual(((1, 0), (1, 1), ()), desk.marks("hall"))
        self.assertEqual("1 0 / 1 1 / -", desk.tell("marks hall"))
        self.assertEqual("- / 0 1 / -", told("new hall " + HALL, "wish hall 0 1", "marks hall")[1][2])
        self.assertEqual("1 0 / - / 0 0", told("new hall " + HALL, "lamp hall 1 0", "post hall 0 0", "marks hall")[1][3])

    def test_post_drop_and_bare(self):
        desk, answers = told("new hall " + HALL, "post hall 2 2", "post hall 0 0", "post hall 1 1", "marks hall",
                             "drop hall 0 0", "marks hall", "bare hall", "bare hall", "marks hall")
        self.assertEqual(["4", "1", "2", "3", "- / - / 0 0 / 1 1 / 2 2", "2", "- / - / 1 1 / 2 2", "2", "0", "- / - / -"],
                         answers)
        desk.tell("post hall 2 2"), desk.tell("post hall 0 0"), desk.tell("drop hall 2 2")
        self.assertEqual((None, None, ((0, 0),)), desk.marks("hall"))
        desk, _ = told("new hall " + HALL, "bare hall", "bare hall")
        # a deed that changes nothing stands, too
        self.assertEqual(("bare hall", "bare hall"), desk.lines()[-2:])

    def test_sixty_posts(self):
        points = points_in(Room(SLAB, fine=4))
        desk, _ = told("new s " + str(Room(SLAB, fine=4)))
        for at, (x, y) in enumerate(points[:60]):
            self.assertEqual(str(at + 1), desk.tell(f"post s {x} {y}"))
        x, y = points[60]
        before = state(desk)
        self.assert_raises(TooMany, "posts", 60, lambda: desk.tell(f"post s {x} {y}"))
        self.assertEqual(before, state(desk))
        self.assertEqual("59", desk.tell("drop s {} {}".format(*points[3])))
        self.assertEqual("60", desk.tell(f"post s {x} {y}"))
        self.assertEqual(tuple(points[:3] + points[4:61]), desk.marks("s")[2])

    def test_guard(self):
        for room, lamp, wish in (
            (Room(BLOCK), (1, 0), (1, 2)), (Room(ELL, fine=2), (1, 1), (3, 1)), (Room([(0, 0)], fine=12), (1, 5), (7, 12)),
        ):
            desk, answers = told("new a " + str(room), "lamp a {} {}".format(*lamp), "wish a {} {}".format(*wish),
                                 "post a 0 0", "guard a")
            guards = guards_of(room, lamp, wish)
            self.assertEqual(str(len(guards)), answers[-1])
            self.assertTrue(desk.room("a") == finer(room, 2))
            self.assertEqual(tuple(2 * x for x in lamp), desk.marks("a")[0])
            self.assertEqual(tuple(2 * x for x in wish), desk.marks("a")[1])
            self.assertEqual(guards, desk.marks("a")[2])
            self.assertEqual("guard a", desk.tell("undo"))
            self.assertEqual((lamp, wish, ((0, 0),)), desk.marks("a"))
            self.assertTrue(desk.room("a") == room)
        self.assertEqual("dark", hall("guard hall").tell("seen hall"))

    def test_sixty_guards(self):
        room = Room([(-4, 5), (-3, 3), (-3, 4), (-3, 5)], fine=4)
        desk, answers = told("new a " + str(room), "lamp a -9 14", "wish a -9 17", "post a -8 14", "guard a", "marks a")
        self.assertEqual("60", answers[-2])
        self.assertEqual(60 + 2, len(answers[-1].split(" / ")))

    def test_guards_that_are_too_many(self):
        room = Room(SLAB, fine=5)
        desk, _ = told("new a " + str(room), "lamp a 1 2", "wish a 7 6")
        self.assertGreater(len(guards_of(room, (1, 2), (7, 6))), 60)
        before = state(desk)
        self.assert_raises(TooMany, "posts", 60, lambda: desk.tell("guard a"))
        self.assertEqual(before, state(desk))

    def test_forget(self):
        desk, answers = told("new a fine 1 / 0 0", "new b fine 2 / 0 0", "forget a")
        self.assertEqual("a", answers[2])
        self.assertEqual(("b",), desk.names())
        self.assert_raises(NoName, "a", lambda: desk.tell("room a"))
        self.assertEqual("1", desk.tell("new a fine 3 / 0 0"))
        self.assertEqual(3, desk.room("a").fine)


class Asks(Checks):

    def test_seen_near_and_doors(self):
        block = Room(BLOCK)
        desk = hall()
        self.assertEqual("lit", desk.tell("seen hall"))
        lit = shortest(block, (1, 0), (1, 2))
        self.assertEqual("{} {} {} {}".format(lit.square, *lit.way, lit.steps), desk.tell("near hall"))
        self.assertEqual("0 0 1 2", desk.tell("near hall"))
        self.assertEqual("no", desk.tell("doors hall 3"))
        desk.tell("post hall 2 1")
        self.assertEqual("0 0 0 1", desk.tell("doors hall 3"))
        desk.tell("shut hall 0 0 0 1")
        self.assertEqual(["dark", "dark", "-"], [desk.tell(line) for line in ("seen hall", "near hall", "doors hall 0")])
        slab = Room([(i, j) for i in range(4) for j in range(2)])
        desk, answers = told("new s " + str(slab), "lamp s 3 2", "wish s 3 0", "doors s 1", "doors s 2")
        self.assertEqual(["no", "0 0 0 1 / 3 0 3 1"], answers[3:])
        self.assertEqual(2, len(darkened(slab, (3, 2), (3, 0), (), 2).sides))

    def test_ways_below_0_in_near(self):
        desk, answers = told("new a fine 4 / 0 0", "lamp a 2 2", "wish a 2 4", "post a 2 3", "near a")
        self.assertEqual("0 -2 1 2", answers[-1])

    def test_track(self):
        desk, answers = told("new a fine 2 / 0 0", "track a 0 1 0 1 1", "track a 0 1 1 1 1", "track a 0 1 1 -1 -1",
                             "track a 0 1 2 0 1")
        self.assertEqual(["1", "1 0 / 2 1 / 1 2 / 0 1 / round", "1 1 / 2 2 / corner", "1 1 / 0 0 / corner",
                          "1 2 / 1 1 / 1 0 / 1 1 / round"], answers)
        # without a lamp, and whatever posts there are
        desk.tell("post a 2 1")
        self.assertEqual(answers[1], desk.tell("track a 0 1 0 1 1"))

    def test_asks_are_no_deeds(self):
        desk, _ = told(*START)
        before = state(desk)
        desk.tell("undo")
        for line in ASKS:
            desk.tell(line)
        self.assertEqual(len(START) - 1, len(desk.lines()))
        desk.tell("redo")
        self.assertEqual(before, state(desk))


class Refusals(Checks):

    def refuses(self, desk, line, error, *fields):
        """Whether a line raises this error, and the desk stays as it was."""
        twin, before = desk.twin(), state(desk)
        self.assert_raises(error, *fields, lambda: desk.tell(line))
        self.assertEqual(before, state(desk))
        self.assertTrue(desk == twin)

    def test_names(self):
        desk = hall()
        self.refuses(desk, "new hall fine 1 / 0 0", Twice, "hall")
        self.refuses(desk, "copy hall none", Twice, "hall")
        self.refuses(desk, "copy hall hall", Twice, "hall")
        self.refuses(desk, "copy none none", NoName, "none")
        self.refuses(desk, "copy some none", NoName, "none")
        for line in DEEDS[1:] + ASKS:
            self.refuses(desk, line, NoName, "a")
            self.refuses(Desk(), line, NoName, "a")

    def test_sides(self):
        desk = hall()
        for word in ("shut", "open"):
            for numbers in ("0 0 1 1", "0 0 0 0", "1 1 2 1", "5 5 5 6", "0 0 0 " + "9" * 140):
                self.refuses(desk, f"{word} hall {numbers}", BadRoom, "side")
        self.refuses(desk, "open hall 0 0 0 1", Misfit, "side")
        desk.tell("shut hall 0 0 0 1")
        for numbers in ("0 1 0 0", "0 0 1 0", "1 0 1 1", "1 1 0 1"):
            self.refuses(desk, "shut hall " + numbers, Misfit, "side")

    def test_sides_that_hide_lamp_or_wish(self):
        desk = hall()
        self.refuses(desk, "shut hall 0 0 1 0", Misfit, "lamp")
        self.refuses(desk, "shut hall 0 1 1 1", Misfit, "wish")
        # at (1, 1) both faces of two gates in a line, of one of them a corner
        desk, _ = told("new g " + str(Room(*GATES)), "wish g 1 1")
        self.refuses(desk, "open g 0 0 0 1", Misfit, "wish")
        desk.tell("lamp g 3 1")
        self.refuses(desk, "open g 1 0 1 1", Misfit, "wish")
        # both are hidden: the lamp comes first
        for marks in (("lamp b 1 0", "wish b 1 1"), ("wish b 1 0", "lamp b 1 1")):
            desk, _ = told("new b " + HALL, *marks)
            self.refuses(desk, "shut b 0 0 1 0", Misfit, "lamp")
        desk.tell("lamp b 0 1")
        self.refuses(desk, "shut b 0 0 1 0", Misfit, "wish")
        # posts stay points, lamps and wishes that are not there hide nothing
        desk, _ = told("new b " + HALL, "post b 1 0", "post b 1 1")
        self.assertEqual("1", desk.tell("shut b 0 0 1 0"))

    def test_lamps_and_wishes(self):
        desk = hall("post hall 2 1")
        for word, other in (("lamp", "1 2"), ("wish", "1 0")):
            for numbers in ("0 0", "2 2", "9 9", "-1 0", "0 " + "9" * 140):
                self.refuses(desk, f"{word} hall {numbers}", BadPlace, word)
            self.refuses(desk, f"{word} hall {other}", Misfit, word)
            self.refuses(desk, f"{word} hall 2 1", Misfit, word)

    def test_posts(self):
        desk = hall("post hall 2 1")
        for numbers in ("3 3", "-1 0", "0 " + "9" * 140):
            self.refuses(desk, "post hall " + numbers, BadPlace, "post")
            self.refuses(desk, "drop hall " + numbers, Misfit, "post")
        for numbers in ("1 0", "1 2", "2 1"):
            self.refuses(desk, "post hall " + numbers, Misfit, "post")
        for numbers in ("1 0", "1 2", "0 0"):
            self.refuses(desk, "drop hall " + numbers, Misfit, "post")

    def test_without_lamp_or_wish(self):
        for word, behind in (("guard", ""), ("seen", ""), ("near", ""), ("doors", " 3")):
            desk, _ = told("new a fine 13 / 0 0")
            self.refuses(desk, f"{word} a{behind}", Misfit, "lamp")
            desk.tell("wish a 1 1")
            self.refuses(desk, f"{word} a{behind}", Misfit, "lamp")
            desk, _ = told("new a fine 13 / 0 0", "lamp a 1 1")
            self.refuses(desk, f"{word} a{behind}", Misfit, "wish")

    def test_too_fine_for_guards(self):
        for fine in (13, 24):
            desk, _ = told(f"new a fine {fine} / 0 0", "lamp a 1 1", "wish a 2 1")
            self.refuses(desk, "guard a", Misfit, "times")

    def test_too_many_books_or_too_far(self):
        desk = hall("post hall 2 1", "shut hall 0 0 0 1")
        with mock.patch("neverhit.books.MOST_BOOKS", 11):
            for line in ("seen hall", "near hall", "doors hall 0", "doors hall 3"):
                self.refuses(desk, line, TooMany, "books", 11)
        desk, _ = told("new w fine 24 / 0 0 / 1 0 / 2 0 / 3 0 / 4 0 / 5 0 / 6 0 / 7 0", "lamp w 1 12", "wish w 191 12")
        self.refuses(desk, "near w", TooMany, "length", 2500)

    def test_tracks(self):
        desk, _ = told("new a " + str(Room(ELL)))
        self.refuses(desk, "track a 3 1 0 0 1", BadNumber, "square")
        self.refuses(desk, "track a -1 9 9 0 0", BadNumber, "square")
        self.refuses(desk, "track a 0 0 0 0 0", BadPlace, "place")
        self.refuses(desk, "track a 0 1 0 2 2", BadWay, "way")
        self.refuses(desk, "track a 1 1 0 1000000000001 1", BadWay, "way")
        self.refuses(desk, "track a 1 1 0 0 1", Misfit, "place")

    def test_undo_and_redo(self):
        for line in ("undo", "redo"):
            self.refuses(Desk(), line, Misfit, line)
        desk = hall("undo", "undo", "undo")
        self.refuses(desk, "undo", Misfit, "undo")
        for line in ("redo", "redo", "redo"):
            desk.tell(line)
        self.refuses(desk, "redo", Misfit, "redo")

    def test_other_asks_of_a_desk(self):
        desk = hall()
        for value in ODD + (5, "cell", "HALL", "hall ", ["hall"], ("hall",), AlwaysEqual()):
            for call in (desk.room, desk.marks):
                with self.assertRaises(NoName) as caught:
                    call(value)
                self.assertIs(value, caught.exception.value)
        self.assertEqual(desk.room(name="hall"), desk.room("hall"))


class Lines(Checks):

    def bent(self, item, line):
        """Whether a line raises BadText at this item, for a desk that keeps much and for one that keeps nothing."""
        for desk in (Desk(), hall("post hall 2 1")):
            before = state(desk)
            self.assert_bad_text(item, desk.tell, line)
            self.assertEqual(before, state(desk))

    def test_no_lines(self):
        for value in ODD + (5, [], ["undo"], b"undo", "", " ", "Undo", "undoo", "hall", " undo", "new\thall"):
            self.bent(0, value)

    def test_each_line_cut_and_too_long(self):
        for line in DEEDS[1:] + ASKS + ("undo", "redo"):
            items = line.split(" ")
            for at in range(1, len(items)):
                self.bent(at, " ".join(items[:at]))
                self.bent(at, " ".join(items[:at]) + " ")
                self.bent(at, " ".join(items[:at]) + "  " + " ".join(items[at:]))
            self.bent(len(items), line + " 1")
            self.bent(len(items), line + " ")
            self.bent(len(items), line + " hall")

    def test_each_line_bent_at_each_item(self):
        for line in DEEDS + ASKS:
            items = line.split(" ")
            for at in range(1, len(items)):
                for bad in ("?", "A", "+1", "-0", "01", "1.0", "a_b", "", "\u00e4", "\u0661", "1" * 141, "-"):
                    self.bent(at, " ".join(items[:at] + [bad] + items[at + 1:]))

    def test_names(self):
        for name in ("a", "z9", "abcdefghijkl", "a12345678901", "hall0"):
            self.assertEqual("1", Desk().tell(f"new {name} fine 1 / 0 0"))
        for name in ("", "9a", "0", "A", "aB", "abcdefghijklm", "a-b", "a.b", "a_", "\u00e4", "a\u0661", "\u00df", "a\n",
                     "-"):
            self.bent(1, f"new {name} fine 1 / 0 0")
            self.bent(2, f"copy b {name}")
            self.bent(1, f"room {name}")

    def test_numbers_of_any_size_and_few_sides(self):
        long = "9" * 140
        desk = hall()
        self.assert_raises(BadPlace, "lamp", lambda: desk.tell(f"lamp hall -{long} {long}"))
        self.bent(3, f"lamp hall 0 {long}9")
        for number in ("-1", "4", long, "x", ""):
            self.bent(2, "doors hall " + number)
        self.assertEqual("no", desk.tell("doors hall 3"))

    def test_texts_of_rooms(self):
        for item, text in ((2, ""), (2, "Fine 1 / 0 0"), (3, "fine"), (3, "fine 25 / 0 0"), (4, "fine 1"), (4, "fine 1 0 0"),
                           (6, "fine 1 / 0"), (7, "fine 1 / 0 0 0"), (8, "fine 1 / 0 0 /"), (9, "fine 1 / 0 0 / 0"),
                           (9, "fine 1 / 0 0 / 0 0"), (9, "fine 1 / 0 0 / 5 5"), (9, "fine 1 / 1 0 / 0 0"),
                           (8, "fine 1 / 0 0 / shot"), (8, "fine 1 / 0 0 / 100 0"), (7, "fine 1 / 0 0 ")):
            self.bent(item, "new b " + text)
        self.bent(2, "new b")
        self.bent(15, "new b fine 1 / 0 0 / 1 0 / shut 0 0 1 0")

    def test_bent_lines_come_first(self):
        desk = hall()
        self.assert_bad_text(4, desk.tell, "new hall fine 1")
        self.assert_bad_text(2, desk.tell, "copy hall ?")
        self.assert_bad_text(4, desk.tell, "lamp none 1 0 ")
        self.assert_bad_text(2, desk.tell, "doors none 4")


class TakenBack(Checks):

    def test_each_deed_back_and_again(self):
        desk, _ = told(*START)
        for line in DEEDS:
            before = state(desk)
            desk.tell(line)
            behind = state(desk)
            self.assertEqual(before[0] + (line,), behind[0])
            for _ in range(2):
                self.assertEqual(line, desk.tell("undo"))
                self.assertEqual(before, state(desk))
                self.assertEqual(line, desk.tell("redo"))
                self.assertEqual(behind, state(desk))

    def test_all_the_way_back_and_again(self):
        desk, _ = told(*START, *DEEDS)
        states = [state(desk)]
        for line in reversed(START + list(DEEDS)):
            self.assertEqual(line, desk.tell("undo"))
            states.append(state(desk))
        self.assertEqual(((), []), states[-1])
        for line, wanted in zip(START + list(DEEDS), states[-2::-1], strict=True):
            self.assertEqual(line, desk.tell("redo"))
            self.assertEqual(wanted, state(desk))

    def test_what_was_taken_back_is_gone_behind_a_deed(self):
        desk = hall("undo", "undo", "post hall 0 0")
        self.assert_raises(Misfit, "redo", lambda: desk.tell("redo"))
        self.assertEqual(("new hall " + HALL, "post hall 0 0"), desk.lines())
        # not behind an ask, nor behind a deed that is refused
        desk = hall("undo")
        desk.tell("room hall")
        self.assert_raises(Misfit, "post", lambda: desk.tell("drop hall 0 0"))
        self.assert_raises(Misfit, "wish", lambda: desk.tell("seen hall"))
        self.assert_bad_text(0, desk.tell, "nothing")
        self.assertEqual("wish hall 1 2", desk.tell("redo"))

    def test_200_deeds(self):
        desk, _ = told("new a fine 2 / 0 0")
        for at in range(199):
            desk.tell("bare a")
        self.assertEqual(200, len(desk.lines()))
        before = state(desk)
        for line in ("bare a", "new b fine 1 / 0 0", "forget a", "lamp a 1 1"):
            self.assert_raises(TooMany, "lines", 200, lambda: desk.tell(line))
        # it is the last of all errors
        self.assert_raises(Twice, "a", lambda: desk.tell("new a fine 1 / 0 0"))
        self.assert_raises(NoName, "b", lambda: desk.tell("bare b"))
        self.assert_raises(BadPlace, "lamp", lambda: desk.tell("lamp a 0 0"))
        self.assert_bad_text(2, desk.tell, "bare a ")
        self.assertEqual("- / - / -", desk.tell("marks a"))
        self.assertEqual(before, state(desk))
        self.assertEqual("bare a", desk.tell("undo"))
        self.assertEqual("bare a", desk.tell("redo"))
        desk.tell("undo"), desk.tell("lamp a 1 1")
        self.assertEqual(200, len(desk.lines()))
        self.assert_raises(TooMany, "lines", 200, lambda: desk.tell("lamp a 1 1"))


class Twins(Checks):

    def test_equal_and_by_itself(self):
        desk = hall("post hall 2 1", "undo")
        twin = desk.twin()
        self.assertIs(Desk, twin.__class__)
        self.assertIsNot(desk, twin)
        self.assertTrue(desk == twin)
        self.assertFalse(desk != twin)
        self.assertEqual(state(desk), state(twin))
        # what was taken back can be done again by the twin
        self.assertEqual("post hall 2 1", twin.tell("redo"))
        self.assertFalse(desk == twin)
        self.assertEqual(((1, 0), (1, 2), ()), desk.marks("hall"))
        self.assertEqual("post hall 2 1", desk.tell("redo"))
        self.assertTrue(desk == twin)
        desk.tell("forget hall")
        self.assertEqual(("hall",), twin.names())
        twin.tell("new b fine 1 / 0 0")
        self.assertEqual((), desk.names())
        for _ in range(4):
            twin.tell("undo")
        self.assertEqual(5, len(desk.lines()))

    def test_equality(self):
        self.assertTrue(Desk() == Desk())
        self.assertTrue(hall() == hall())
        self.assertFalse(hall() == Desk())
        # the same is kept, but by other deeds
        one, other = hall("bare hall"), hall()
        self.assertEqual(state(one)[1], state(other)[1])
        self.assertFalse(one == other)
        # the same deeds stand, but others were taken back, or in another order
        self.assertFalse(hall("post hall 2 1", "undo") == hall())
        self.assertFalse(hall("post hall 2 1", "undo") == hall("post hall 0 1", "undo"))
        self.assertTrue(hall("post hall 2 1", "undo") == hall("marks hall", "post hall 2 1", "seen hall", "undo"))
        one, other = hall("bare hall", "post hall 0 1", "undo", "undo"), hall("post hall 0 1", "bare hall", "undo", "undo")
        self.assertEqual(state(one), state(other))
        self.assertFalse(one == other)
        for value in ODD + (5, (), "desk"):
            if not isinstance(value, AlwaysEqual):
                self.assertIs(False, hall() == value)
        self.assertIs(False, Desk().__eq__(AlwaysEqual()))


class Read(Checks):

    def test_told_one_behind_another(self):
        for lines in ([], START, START + list(DEEDS), START + list(ASKS), START + ["undo", "undo", "redo"],
                      ("new a fine 2 / 0 0",), OwnList(["new a fine 1 / 0 0", "undo"])):
            self.assertTrue(Desk.read(lines) == told(*lines)[0])
            self.assertEqual(state(told(*lines)[0]), state(Desk.read(lines=lines)))
        desk, _ = told(*START, *DEEDS, "undo")
        again = Desk.read(desk.lines())
        self.assertEqual(state(desk), state(again))
        self.assertFalse(desk == again)
        desk.tell("new d fine 1 / 0 0")
        self.assertTrue(desk == Desk.read(desk.lines()))
        self.assertIs(Desk, Desk.read([]).__class__)
        self.assertEqual((), Desk.read(()).lines())

    def test_no_list_of_strings(self):
        values = tuple(value for value in ODD if value not in ([], ["a", "b"], ("0", "0")))
        self.assert_bad(BadWord, "lines", values + (5, "undo", [1], [["undo"]], ["undo", None], (b"undo",)), Desk.read)

    def test_the_first_line_that_raises(self):
        start = ["new hall " + HALL, *ENDS]
        for line, error in (
            ("what", BadText(0, 0)), ("lamp hall 1", BadText(0, 3)), ("new a fine 1 / 0 x", BadText(0, 6)),
            ("new hall fine 1 / 0 0", Twice("hall")), ("seen cell", NoName("cell")),
            ("shut hall 0 0 5 5", BadRoom("side")), ("open hall 0 0 0 1", Misfit("side")),
            ("lamp hall 0 0", BadPlace("lamp")), ("post hall 9 9", BadPlace("post")),
            ("track hall 7 1 0 1 1", BadNumber("square")), ("track hall 0 1 0 2 2", BadWay("way")), ("redo", Misfit("redo")),
        ):
            for behind in ([], ["forget hall"], ["what", "undo"]):
                self.raises(len(start), error, start + [line] + behind)
        self.raises(0, BadText(0, 0), ["", "undo"])
        self.raises(0, Misfit("undo"), ("undo",))
        self.raises(200, TooMany("lines", 200), ["new a fine 1 / 0 0"] + ["bare a"] * 200)
        self.raises(61, TooMany("posts", 60), ["new s " + str(Room(SLAB, fine=4))] + [
            "post s {} {}".format(*point) for point in points_in(Room(SLAB, fine=4))[:61]])

    def raises(self, at, error, lines):
        """Whether some lines raise a BadLine of this number, with an error like this one."""
        with self.assertRaises(BadLine) as caught:
            Desk.read(lines)
        self.assertEqual(at, caught.exception.line)
        self.assertIs(error.__class__, caught.exception.error.__class__)
        self.assertEqual(vars(error), vars(caught.exception.error))

    def test_what_is_passed_stays(self):
        lines = list(START)
        Desk.read(lines)
        self.assertEqual(START, lines)


if __name__ == "__main__":
    unittest.main()
