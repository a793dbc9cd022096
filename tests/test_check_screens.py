"""The check of papers on screens."""

import unittest
from itertools import combinations
from unittest import mock

from common import ODD, AlwaysEqual, Checks, OwnList
from test_screens import HALF_WAY, LIKE_W, ONE, TWO, cases, guarded, lit_pair, pairs_of

from neverhit.check_judged import shows_judged
from neverhit.check_screens import shows_fewest, shows_screened
from neverhit.errors import BadNumber, BadPlace, BadRoom, Misfit, TooMany
from neverhit.judged import Lit
from neverhit.papers import Denial, Paper
from neverhit.rooms import Room
from neverhit.screens import NoScreen, Screen, Screened, Through, fewest_posts, screened

THROUGH = (ONE, [(0, 1)], [(2, 1)], [(1, 1), (1, 2)])
FEW = (TWO, [(0, 1)], [(4, 1)], [(2, 0), (2, 1), (2, 2), (1, 1)], 3)


class CheckOfScreened(Checks):

    def test_by_hand(self):
        for value, told in (
            (Screened(), False), (Through((0, 1), (2, 1), 0, (1, -1), 2), True),
            (Through([0, 1], [2, 1], 0, [1, -1], 2), True), (Through([0, 1], [2, 1], 0, [1, 1], 2), False),
            (Through((2, 1), (0, 1), 0, (-1, -1), 2), False), (Through((0, 1), (2, 1), 0, (1, -1), 1), False),
            (Through((0, 1), (2, 1), 1, (1, -1), 2), False), (Through((0, 1), (0, 1), 0, (1, -1), 4), False),
            (Through((0, 1), (1, 1), 0, (1, 0), 1), False), (NoScreen(1), False), (None, False),
        ):
            self.assertIs(told, shows_screened(*THROUGH, value))
        self.assertIs(True, shows_screened(ONE, [(0, 1)], [(2, 1)], HALF_WAY, Screened()))
        self.assertIs(True, shows_screened(value=Screened(), posts=[], wishes=[(1, 1)], lamps=[[1, 1]], room=ONE))

    def test_what_is_told_is_right_and_no_other_word(self):
        for told in cases(180, 80) + guarded(181, 20):
            paper = screened(*told)
            self.assertIs(True, shows_screened(*told, paper))
            self.assertIs(bool(paper), shows_screened(*told, Screened()))

    def test_a_through_of_any_pair(self):
        seen = {True: 0, False: 0}
        for room, lamps, wishes, posts in cases(182, 25):
            for lamp, wish in combinations(sorted(set(lamps + wishes)), 2):
                for ends in ((lamp, wish), (wish, lamp)):
                    for way in ((1, 0), (0, -1), (1, 1), (-1, 2), (1, -1), (3, 1)):
                        for steps in (1, 2, 3):
                            wanted = ends in pairs_of(lamps, wishes) and shows_judged(room, *ends, posts, Lit(0, way, steps))
                            value = Through(*ends, 0, way, steps)
                            self.assertIs(wanted, shows_screened(room, lamps, wishes, posts, value))
                            seen[wanted] += 1
        self.assertGreater(seen[True], 20)

    def test_great_ways(self):
        for way, told in (((10 ** 30 + 1, -1), False), ((10 ** 12 + 1, 1), False), ((1, -10 ** 15), False)):
            wanted = shows_judged(ONE, (0, 1), (2, 1), THROUGH[3], Lit(0, way, 2))
            self.assertIs(wanted, shows_screened(*THROUGH, Through((0, 1), (2, 1), 0, way, 2)))
        way = next((4 * n + 1, -(4 * m + 1)) for n in range(10 ** 20, 10 ** 20 + 9) for m in range(10 ** 19, 10 ** 19 + 9)
                   if shows_judged(ONE, (0, 1), (2, 1), THROUGH[3], Lit(0, (4 * n + 1, -(4 * m + 1)), 2)))
        self.assertIs(True, shows_screened(*THROUGH, Through((0, 1), (2, 1), 0, way, 2)))

    def test_bent_in_one_part(self):
        right = (0, 1), (2, 1), 0, (1, -1), 2
        self.assertIs(True, shows_screened(*THROUGH, Through(*right)))
        bad = ODD + (AlwaysEqual(), -1, 10 ** 40, (0, True), (False, 1), (0, 1.0), (1, 1, 1), (2, -2), (9, 9), [[0, 1]])
        for at in range(5):
            for value in bad:
                self.assertIs(False, shows_screened(*THROUGH, Through(*right[:at], value, *right[at + 1:])))

    def test_other_values(self):
        denial = Denial("through", (0, 1), (2, 1), 0, (1, -1), 2)
        for value in ODD + (AlwaysEqual(), Paper("screened"), denial, Lit(0, (1, -1), 2), Screen([])):
            self.assertIs(False, shows_screened(*THROUGH, value))
            self.assertIs(False, shows_screened(ONE, [(0, 1)], [(2, 1)], HALF_WAY, value))

    def test_errors(self):
        for value in (None, Screened(), Through((0, 1), (2, 1), 0, (1, -1), 2)):
            for bad in ODD + (5,):
                self.assert_raises(BadRoom, "room", lambda: shows_screened(bad, None, None, None, value))
            for bad in ([], [(0, 0)], None, [(0, 1), [0, 1]], {(0, 1): 1}):
                self.assert_raises(BadPlace, "lamps", lambda: shows_screened(ONE, bad, None, None, value))
                self.assert_raises(BadPlace, "wishes", lambda: shows_screened(ONE, [(0, 1)], bad, None, value))
            for bad in ([(9, 9)], None, [(1, 1), [1, 1]]):
                self.assert_raises(BadPlace, "posts", lambda: shows_screened(ONE, [(0, 1)], [(0, 1)], bad, value))
            self.assert_raises(Misfit, "posts", lambda: shows_screened(ONE, [(0, 1)], [(2, 1)], [(1, 1), (2, 1)], value))

    def test_too_many_books_but_not_for_a_through(self):
        with mock.patch("neverhit.books.MOST_BOOKS", 2):
            told = (ONE, [(0, 1)], [(2, 1)], HALF_WAY)
            for value in (None, Screened(), NoScreen(0)):
                self.assert_raises(TooMany, "books", 2, lambda: shows_screened(*told, value))
            self.assertIs(False, shows_screened(*told, Through((0, 1), (2, 1), 0, (1, -1), 2)))
            self.assertIs(True, shows_screened(*THROUGH, Through((0, 1), (2, 1), 0, (1, -1), 2)))


class CheckOfFewest(Checks):

    def test_by_hand(self):
        for value, told in (
            (Screen([(2, 0), (2, 1), (2, 2)]), True), (Screen([[2, 0], OwnList((2, 1)), (2, 2)]), True),
            (Screen([(2, 1), (2, 0), (2, 2)]), False), (Screen([(2, 0), (2, 1)]), False),
            (Screen([(1, 1), (2, 0), (2, 2)]), False), (Screen([(2, 0), (2, 0), (2, 2)]), False),
            (Screen([(1, 1), (2, 0), (2, 1), (2, 2)]), False), (Screen([]), False), (NoScreen(3), False),
            (Screened(), False),
        ):
            self.assertIs(told, shows_fewest(*FEW, value))
        self.assertIs(True, shows_fewest(*FEW[:4], 2, NoScreen(2)))
        self.assertIs(False, shows_fewest(*FEW[:4], 2, NoScreen(3)))
        self.assertIs(False, shows_fewest(*FEW[:4], 2, Screen([(2, 0), (2, 1), (2, 2)])))
        told = {"room": LIKE_W, "lamps": [(0, 1)], "wishes": [(2, 3)], "points": [(1, 1)], "most": 3}
        self.assertIs(True, shows_fewest(value=Screen([]), **told))
        lists = [[2, 2], [2, 1], OwnList((2, 0))]
        self.assertIs(True, shows_fewest(*FEW[:3], lists, 3, Screen([(2, 0), (2, 1), (2, 2)])))
        self.assertEqual([[2, 2], [2, 1], [2, 0]], lists)

    def test_a_lot_of_other_points_that_screens(self):
        self.assertIs(False, shows_fewest(*FEW[:3], [(2, 0), (2, 1), (1, 1)], 3, Screen([(2, 0), (2, 1), (2, 2)])))
        # as if each post screened
        with mock.patch("neverhit.check_screens.fewest_posts", lambda *told: Screen([(2, 0)])):
            with mock.patch("neverhit.check_screens.screened", lambda *told: Screened()):
                self.assertIs(True, shows_fewest(*FEW, Screen([(2, 2)])))
                self.assertIs(False, shows_fewest(*FEW, Screen([(3, 1)])))

    def test_any_lot_that_is_as_few_as_can_be(self):
        four = Room([(0, 0)], fine=4)
        told = [(four, [(0, 2)], [(4, 2)], [(2, y) for y in range(5)] + [(1, 1), (3, 3)], 3)]
        told += [(*case, most) for case in cases(183, 40) + guarded(184, 8) for most in (1, 3)]
        counts = {}
        for room, lamps, wishes, points, most in told:
            paper = fewest_posts(room, lamps, wishes, points, most)
            self.assertIs(True, shows_fewest(room, lamps, wishes, points, most, paper))
            self.assertIs(not paper, shows_fewest(room, lamps, wishes, points, most, NoScreen(most)))
            right = 0
            for many in range(min(4, len(points) + 1)):
                for lot in list(combinations(sorted(points), many))[:60]:
                    wanted = bool(paper) and many == len(paper.posts) and lit_pair(room, lamps, wishes, lot) is None
                    self.assertIs(wanted, shows_fewest(room, lamps, wishes, points, most, Screen(lot)))
                    right += wanted
            counts[right] = counts.get(right, 0) + 1
        self.assertGreater(counts[0], 5)
        self.assertGreater(counts[1], 5)

    def test_bent_in_one_part(self):
        bad = ODD + (AlwaysEqual(), 5, (2, True), (2, 0.0), (2,), (2, 0, 0), [[2, 0]], (2, AlwaysEqual()))
        for value in bad:
            self.assertIs(False, shows_fewest(*FEW, Screen(value)))
            for at in range(3):
                posts = [(2, 0), (2, 1), (2, 2)]
                posts[at] = value
                self.assertIs(False, shows_fewest(*FEW, Screen(posts)))
            self.assertIs(False, shows_fewest(*FEW[:4], 1, NoScreen(value)))
            self.assertIs(False, shows_fewest(*FEW, value))
        for most in (True, 1.0, "1", 0, 2):
            self.assertIs(False, shows_fewest(*FEW[:4], 1, NoScreen(most)))
        self.assertIs(True, shows_fewest(*FEW[:4], 1, NoScreen(1)))

    def test_errors(self):
        call = shows_fewest
        for value in (None, Screen([]), NoScreen(3)):
            for bad in ODD + (5,):
                self.assert_raises(BadRoom, "room", lambda: call(bad, None, None, None, None, value))
            self.assert_raises(BadPlace, "lamps", lambda: call(ONE, [], None, None, None, value))
            self.assert_raises(BadPlace, "wishes", lambda: call(ONE, [(0, 1)], [(0, 0)], None, None, value))
            self.assert_raises(BadPlace, "points", lambda: call(ONE, [(0, 1)], [(0, 1)], [(9, 9)], None, value))
            self.assert_raises(BadNumber, "most", lambda: call(ONE, [(0, 1)], [(0, 1)], [(0, 1)], 4, value))
            self.assert_raises(Misfit, "points", lambda: call(ONE, [(0, 1)], [(0, 1)], [(0, 1)], 3, value))
            with mock.patch("neverhit.books.MOST_BOOKS", 2):
                self.assert_raises(TooMany, "books", 2, lambda: call(ONE, [(0, 1)], [(2, 1)], HALF_WAY, 3, value))


if __name__ == "__main__":
    unittest.main()
