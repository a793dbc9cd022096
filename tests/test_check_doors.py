"""The check of papers on doors."""

import unittest
from unittest import mock

from common import BLOCK, GATES, NO_INTEGERS, NO_POINTS, ODD, AlwaysEqual, Checks
from test_doors import EAST, HALF, HALL, NORTH, SOUTH, WEST, blocks, cases

from neverhit.check_doors import shows_doors, shows_opened
from neverhit.check_judged import shows_judged
from neverhit.doors import Doors, NoDoors, Opened, StillDark, darkened, lightened, room_by
from neverhit.errors import BadNumber, BadPlace, BadRoom, Misfit, TooMany
from neverhit.judged import Lit
from neverhit.papers import Denial, Paper
from neverhit.rooms import Room

ENDS = ((1, 0), (1, 2))
TOLD = (HALL, *ENDS, [(2, 1)], 1)
SHUT = (HALF, *ENDS, [(2, 1)], 1)
# values that no part of a right paper is
BENT_PARTS = ODD + (AlwaysEqual(), -1, 10 ** 40, [[]], "0 0 0 1")


class CheckOfDoors(Checks):

    def test_by_hand(self):
        self.assertIs(True, shows_doors(*TOLD, Doors([[[0, 0], [0, 1]]])))
        self.assertIs(True, shows_doors(HALL, *ENDS, value=NoDoors(0), posts=[(2, 1)], most=0))
        for value in (Doors(()), Doors([EAST]), Doors([SOUTH]), Doors([WEST, EAST]), Doors([WEST[::-1]]), NoDoors(1),
                      NoDoors(0), StillDark(1), Opened([WEST], 0, (0, 1), 2), None):
            self.assertIs(False, shows_doors(*TOLD, value))
        self.assertIs(True, shows_doors(HALF, *ENDS, [(2, 1)], 0, Doors([])))
        self.assertIs(False, shows_doors(HALF, *ENDS, [(2, 1)], 0, NoDoors(0)))

    def test_what_is_told_is_right_and_nothing_else(self):
        for told in cases(140, 30) + blocks()[::3]:
            for most in (0, 1, 3):
                paper = darkened(*told, most)
                self.assertIs(True, shows_doors(*told, most, paper))
                self.assertIs(not paper, shows_doors(*told, most, NoDoors(most)))
                self.assertIs(False, shows_doors(*told, most, NoDoors(most + 1)))
                for side in (WEST, SOUTH, NORTH, EAST):
                    self.assertIs(paper == Doors([side]), shows_doors(*told, most, Doors([side])))
                paper = lightened(*told, most)
                self.assertIs(True, shows_opened(*told, most, paper))
                self.assertIs(not paper, shows_opened(*told, most, StillDark(most)))
                self.assertIs(False, shows_opened(*told, most, StillDark(most - 1)))
                self.assertIs(False, shows_opened(*told, most, NoDoors(most)))
                self.assertIs(False, shows_doors(*told, most, StillDark(most)))

    def test_two_sides(self):
        slab = Room([(i, j) for i in range(4) for j in range(2)])
        told = (slab, (3, 2), (3, 0), (), 2)
        east = ((3, 0), (3, 1))
        self.assertIs(True, shows_doors(*told, Doors((WEST, east))))
        for sides in ((east, WEST), (WEST,), (WEST, east, SOUTH), (WEST, ((2, 0), (2, 1))), (WEST, WEST)):
            self.assertIs(False, shows_doors(*told, Doors(sides)))
        self.assertIs(False, shows_doors(*told, NoDoors(2)))
        self.assertIs(True, shows_doors(slab, (3, 2), (3, 0), (), 1, NoDoors(1)))

    def test_denials_of_just_this_most(self):
        for most in (False, 0.0, "0", None, [], 1, AlwaysEqual()):
            self.assertIs(False, shows_doors(HALL, *ENDS, [(2, 1)], 0, NoDoors(most)))
        told = (HALL, *ENDS, (), 1)
        self.assertIs(True, shows_doors(*told, NoDoors(1)))
        for most in (True, 1.0, "1", [1], 2, AlwaysEqual()):
            self.assertIs(False, shows_doors(*told, NoDoors(most)))
        like_w = (Room([(0, 0), (0, 1), (1, 1), (1, 2), (2, 2)]), (0, 1), (2, 3), (), 1)
        self.assertIs(True, shows_opened(*like_w, StillDark(1)))
        for most in (True, 1.0, "1", [1], 2, AlwaysEqual()):
            self.assertIs(False, shows_opened(*like_w, StillDark(most)))

    def test_true_is_no_number_within_sides(self):
        for side in (((0, 0), (0, True)), ((False, 0), (0, 1)), ((0, 0), (0, 1.0)), ((0, 0), (0, AlwaysEqual())),
                     ((0, 0),), ((0, 0), (0, 1), (0, 1))):
            self.assertIs(False, shows_doors(*TOLD, Doors([side])))
            self.assertIs(False, shows_opened(*SHUT, Opened([side], 0, (0, 1), 2)))

    def test_other_values(self):
        for value in BENT_PARTS + (Paper("doors", [WEST]), Denial("nodoors", 1), Lit(0, (0, 1), 2)):
            self.assertIs(False, shows_doors(*TOLD, value))
            self.assertIs(False, shows_opened(*SHUT, value))
            self.assertIs(False, shows_doors(*TOLD, Doors(value)))
            self.assertIs(False, shows_doors(HALL, *ENDS, (), 1, NoDoors(value)))

    def test_errors(self):
        for call in (shows_doors, shows_opened):
            self.assert_bad(BadRoom, "room", ODD + (5,), lambda value: call(value, None, None, None, None, None))
            places = NO_POINTS + ((0, 0), (9, 9))
            self.assert_bad(BadPlace, "lamp", places, lambda value: call(HALL, value, None, None, None, None))
            self.assert_bad(BadPlace, "wish", places, lambda value: call(HALL, (1, 0), value, None, None, None))
            self.assert_raises(BadPlace, "posts", lambda: call(HALL, (1, 0), (1, 0), [(9, 9)], None, None))
            self.assert_bad(BadNumber, "most", NO_INTEGERS + (-1, 4),
                            lambda value: call(HALL, (1, 0), (1, 0), [(1, 0)], value, None))
            self.assert_raises(Misfit, "wish", lambda: call(HALL, (1, 0), [1, 0], [(1, 0)], 1, None))
            self.assert_raises(Misfit, "posts", lambda: call(HALL, (1, 0), (1, 2), [(1, 0)], 1, None))
            with mock.patch("neverhit.books.MOST_BOOKS", 11):
                for value in (None, NoDoors(0), Doors(()), Opened((), 0, (0, 1), 2), StillDark(0)):
                    self.assert_raises(TooMany, "books", 11, lambda: call(HALF, *ENDS, [(2, 1)], 0, value))


class CheckOfOpened(Checks):

    def test_by_hand(self):
        for value, told in (
            (Opened([WEST], 2, (0, 1), 2), True), (Opened([WEST], 0, (0, 1), 2), True),
            (Opened([WEST], 0, (1, 2), 1), False), (Opened([WEST], 1, (0, 1), 2), False),
            (Opened([WEST], 0, (0, 1), 1), False), (Opened([WEST], 0, (0, -1), 2), True),
            (Opened([WEST], 0, (0, 2), 1), False), (Opened([EAST], 0, (0, 1), 2), False),
            (Opened([], 0, (0, 1), 2), False), (Opened([WEST, WEST], 0, (0, 1), 2), False),
            (Opened([WEST[::-1]], 0, (0, 1), 2), False), (StillDark(1), False), (Lit(0, (0, 1), 2), False),
        ):
            self.assertIs(told, shows_opened(*SHUT, value), value.parts)
        self.assertIs(True, shows_opened(HALL, *ENDS, [(2, 1)], 0, Opened([], 0, (0, 1), 2)))
        self.assertIs(True, shows_opened(value=StillDark(0), most=0, posts=[(2, 1)], wish=(1, 2), lamp=(1, 0), room=HALF))

    def test_any_right_ray_as_for_lit(self):
        for told in blocks()[::4]:
            paper = lightened(*told, 1)
            if not paper:
                continue
            room, lamp, wish, posts = told
            other = room_by(room, paper.sides)
            for square in range(-1, 5):
                for way in ((0, 1), (1, 0), (1, 1), (-1, 1), (1, -2), (2, 2), (0, 0), (10 ** 13, 1), (-3, 10 ** 20 + 1)):
                    for steps in range(5):
                        wanted = shows_judged(other, lamp, wish, posts, Lit(square, way, steps))
                        self.assertIs(wanted, shows_opened(*told, 1, Opened(paper.sides, square, way, steps)))

    def test_bent_in_one_part(self):
        right = (WEST,), 0, (0, 1), 2
        self.assertIs(True, shows_opened(*SHUT, Opened(*right)))
        for value in BENT_PARTS:
            for at in range(4):
                parts = right[:at] + (value,) + right[at + 1:]
                self.assertIs(False, shows_opened(*SHUT, Opened(*parts)))
        for way in ((0, True), (False, 1), (0, 1.0), (0,), (0, 1, 0)):
            self.assertIs(False, shows_opened(*SHUT, Opened((WEST,), 0, way, 2)))

    def test_sides_of_the_first_lot_alone(self):
        # of the gates both must be opened, and no ray tells of fewer
        told = (Room(*GATES), (1, 1), (3, 1), [(1, 0), (1, 2), (2, 0), (2, 2)], 3)
        sides = Room(*GATES).shut
        self.assertIs(True, shows_opened(*told, Opened(sides, 2, (1, 0), 2)))
        self.assertIs(False, shows_opened(*told, Opened(sides[::-1], 2, (1, 0), 2)))
        self.assertIs(False, shows_opened(*told, Opened(sides[:1], 2, (1, 0), 2)))
        self.assertIs(False, shows_opened(*told, StillDark(3)))
        # where the empty lot is lit no other one is right, though it be lit, too
        lit = (Room(BLOCK, [WEST]), *ENDS, (), 1)
        self.assertIs(False, shows_opened(*lit, Opened([WEST], 0, (0, 1), 2)))
        self.assertIs(True, shows_opened(*lit, Opened([], 2, (1, 1), 2)))


if __name__ == "__main__":
    unittest.main()
