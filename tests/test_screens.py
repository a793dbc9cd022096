"""Screens: posts that keep several wishes dark from several lamps, and as few of them as can be."""

import random
import unittest
from itertools import combinations
from unittest import mock

import oracle
from common import BLOCK, ELL, NO_INTEGERS, NO_POINTS, ODD, Checks, OwnList, grown_rooms

from neverhit.changed import finer, finer_point
from neverhit.check_judged import shows_judged
from neverhit.errors import BadNumber, BadPlace, BadRoom, Misfit, TooMany
from neverhit.guards import guards_of
from neverhit.judged import Lit, judged
from neverhit.papers import Denial, Paper
from neverhit.places import places_of, points_in
from neverhit.rooms import Room
from neverhit.screens import NoScreen, Screen, Screened, Through, fewest_posts, screened

ONE = Room([(0, 0)], fine=2)
TWO = Room([(0, 0), (1, 0)], fine=2)
HALF_WAY = [(1, 0), (1, 1), (1, 2)]
LIKE_W = Room([(0, 0), (0, 1), (1, 1), (1, 2), (2, 2)])


def pairs_of(lamps, wishes):
    """All pairs of a lamp and a wish that is another place, in their order."""
    return [(lamp, wish) for lamp in sorted(lamps) for wish in sorted(wishes) if lamp != wish]


def lit_pair(room, lamps, wishes, posts):
    """The first pair that is lit, None if none is: looked for pair by pair."""
    for lamp, wish in pairs_of(lamps, wishes):
        if judged(room, lamp, wish, posts):
            return (lamp, wish)
    return None


def cases(seed, many):
    """So many rooms of one or two squares, each with lamps, wishes and points."""
    chance = random.Random(seed)
    found = []
    while len(found) < many:
        room = chance.choice((ONE, TWO, Room([(0, 0), (0, 1)]), Room([(3, 3)], fine=3), Room([(-1, 0), (-1, 1)], fine=2)))
        places = places_of(room)
        few = chance.choice(((1, 1), (1, 2), (2, 1), (2, 2), (1, 3), (3, 1)))
        if len(places) < max(few):
            continue
        lamps, wishes = [chance.sample(places, number) for number in few]
        left = [point for point in points_in(room) if point not in lamps + wishes]
        most = min(len(left), 24 // (few[0] * few[1]), 12)
        found.append((room, lamps, wishes, chance.sample(left, chance.choice((0, 1, most // 2, most, most)))))
    return found


def guarded(seed, many):
    """So many rooms made twice as fine, with their guards as points, perhaps but one."""
    chance = random.Random(seed)
    found = []
    while len(found) < many:
        room = chance.choice((Room([(0, 0), (1, 0)]), Room(ELL), Room([(0, 0), (0, 1)])))
        lamp, wish = chance.sample(places_of(room), 2)
        points = [point for point in guards_of(room, lamp, wish) if chance.random() < 0.9]
        found.append((finer(room, 2), [finer_point(room, 2, lamp)], [finer_point(room, 2, wish)], points))
    return found


class Screens(Checks):

    def test_by_hand(self):
        self.assertTrue(screened(ONE, [(0, 1)], [(2, 1)], HALF_WAY) == Screened())
        self.assertEqual(((0, 1), (2, 1)), screened(ONE, [(2, 1), (0, 1)], [[0, 1], (2, 1)], HALF_WAY[1:]).parts[:2])
        self.assertEqual("through", screened(ONE, lamps=[(0, 1)], wishes=[(2, 1)], posts=()).word)
        # a lamp that is the wish, too, needs no post
        self.assertTrue(screened(ONE, [(1, 1)], [[1, 1]], ()))
        self.assertTrue(screened(LIKE_W, [(0, 1), (2, 3)], [(2, 3), (0, 1)], ()))
        # rays go on at other lamps and wishes: on their way from (0, 1) to (2, 1) they are at (1, 1)
        told = screened(ONE, [(0, 1), (1, 1)], [(2, 1)], [(1, 0), (1, 2)])
        self.assertEqual(((0, 1), (2, 1), 0, (1, 0), 2), told.parts)
        told = screened(ONE, [(0, 1)], [(2, 1), (1, 1)], [(1, 0), (1, 2)])
        self.assertEqual((0, 1), told.lamp)
        self.assertEqual((1, 1), told.wish)

    def test_pair_by_pair(self):
        words = {}
        for room, lamps, wishes, posts in cases(170, 150) + guarded(173, 40):
            paper = screened(room, lamps, wishes, posts)
            pair = lit_pair(room, lamps, wishes, posts)
            words[paper.word] = words.get(paper.word, 0) + 1
            if pair is None:
                self.assertTrue(paper == Screened())
                continue
            self.assertIs(Through, paper.__class__)
            self.assertEqual(pair, (paper.lamp, paper.wish))
            ray = Lit(paper.square, paper.way, paper.steps)
            self.assertTrue(shows_judged(room, *pair, posts, ray))
            if max(abs(number) for number in paper.way) < 9:
                self.assertIn(paper.steps, oracle.comes_by(room, paper.square, pair[0], paper.way, pair[1], posts))
        self.assertGreater(min(words.values()), 15)

    def test_all_guards_of_all_pairs_screen(self):
        for room, lamps, wishes in ((Room(ELL), [(0, 1), (1, 0)], [(1, 0)]), (ONE, [(0, 1)], [(2, 1), (1, 1)]),
                                    (Room(BLOCK), [(1, 0)], [(1, 2)])):
            guards = sorted({guard for pair in pairs_of(lamps, wishes) for guard in guards_of(room, *pair)})
            double = [[finer_point(room, 2, place) for place in places] for places in (lamps, wishes)]
            if not any(point in guards for point in double[0] + double[1]):
                self.assertTrue(screened(finer(room, 2), *double, guards))

    def test_other_rooms_and_the_most_places(self):
        for room in grown_rooms(171, 40, (1, 2)):
            places = places_of(room)
            if 2 < len(places) and room.many < 5:
                lamps, wishes = places[:6], places[-6:]
                posts = [point for point in points_in(room) if point not in lamps + wishes][:10]
                told = screened(room, lamps, wishes, posts)
                self.assertEqual(lit_pair(room, lamps, wishes, posts), None if told else told.parts[:2])

    def test_lists_and_what_is_passed_stays(self):
        lamps, wishes, posts = [[2, 1], [0, 1]], OwnList([[1, 2]]), [[1, 1]]
        told = screened(ONE, lamps, wishes, posts)
        self.assertEqual(((0, 1), (1, 2)), told.parts[:2])
        fewest_posts(ONE, lamps, wishes, posts, 1)
        self.assertEqual(([[2, 1], [0, 1]], [[1, 2]], [[1, 1]]), (lamps, wishes, posts))

    def test_the_papers(self):
        told = Through([0, 1], (2, 1), 0, [1, 0], 2)
        self.assertEqual(("through", ((0, 1), (2, 1), 0, (1, 0), 2)), (told.word, told.parts))
        self.assertEqual(((0, 1), (2, 1), 0, (1, 0), 2), (told.lamp, told.wish, told.square, told.way, told.steps))
        self.assertTrue(told == Through(steps=2, way=(1, 0), square=0, wish=[2, 1], lamp=[0, 1]))
        self.assertEqual(("screened", ()), (Screened().word, Screened().parts))
        screen = Screen([[1, 1]])
        self.assertEqual(("screen", (((1, 1),),), ((1, 1),)), (screen.word, screen.parts, screen.posts))
        self.assertTrue(Screen(posts=[[1, 1]]) == Screen(((1, 1),)))
        self.assertEqual(("noscreen", (2,), 2), (NoScreen(2).word, NoScreen(2).parts, NoScreen(most=2).most))
        self.assertEqual([True, False, True, False], [bool(p) for p in (Screened(), told, Screen(()), NoScreen(0))])
        self.assertEqual([(Paper,), (Denial,)] * 2, [made.__bases__ for made in (Screened, Through, Screen, NoScreen)])

    def test_errors(self):
        self.assert_bad(BadRoom, "room", ODD + (5,), lambda value: screened(value, None, None, None))
        for value in self.bad_places():
            self.assert_raises(BadPlace, "lamps", lambda: screened(TWO, value, None, None))
            self.assert_raises(BadPlace, "wishes", lambda: screened(TWO, [(1, 1)], value, None))
        for value in ODD + (5, (1, 1), [(9, 9)], [(1, 1), [1, 1]], [(1, 1), None]):
            if value != []:
                self.assert_raises(BadPlace, "posts", lambda: screened(TWO, [(1, 1)], [(1, 1)], value))
        for posts in ([(1, 1)], [(0, 0), [0, 1]], [(2, 1), (0, 1), (1, 1)]):
            self.assert_raises(Misfit, "posts", lambda: screened(TWO, [(1, 1), (1, 2)], [(0, 1)], posts))

    def bad_places(self):
        """Values that are no lists of one to six unlike places of TWO."""
        seven = places_of(TWO)[:7]
        self.assertEqual(7, len(seven))
        return ODD + NO_POINTS + (
            [], (), (1, 1), [(0, 0)], [(9, 9)], [(1, 1), [1, 1]], [(1, 1), None], seven, [(1, 1), (4, 2)], {(1, 1): 1})

    def test_six_places(self):
        places = places_of(TWO)
        self.assertEqual(Through, screened(TWO, places[:6], places[:6], ()).__class__)

    def test_too_many_books(self):
        dark = [(1, 0), (1, 1), (1, 2)]
        many = len(judged(ONE, (0, 1), (2, 1), dark).books)
        with mock.patch("neverhit.books.MOST_BOOKS", many - 1):
            self.assert_raises(TooMany, "books", many - 1, lambda: screened(ONE, [(0, 1)], [(2, 1)], dark))
            self.assert_raises(TooMany, "books", many - 1, lambda: fewest_posts(ONE, [(0, 1)], [(2, 1)], dark, 0))
        # the first pair that is lit ends it
        posts = [(2, 0), (2, 1), (2, 2)]
        with mock.patch("neverhit.books.MOST_BOOKS", 3):
            self.assert_raises(TooMany, "books", 3, lambda: screened(TWO, [(0, 1)], [(4, 1)], posts))
            self.assertEqual((1, 1), screened(TWO, [(0, 1)], [(4, 1), (1, 1)], posts).wish)


class Fewest(Checks):

    def test_by_hand(self):
        points = [(2, 2), (1, 1), (2, 1), (2, 0)]
        self.assertTrue(fewest_posts(TWO, [(0, 1)], [(4, 1)], points, 3) == Screen([(2, 0), (2, 1), (2, 2)]))
        self.assertTrue(fewest_posts(TWO, [(0, 1)], [(4, 1)], points, most=2) == NoScreen(2))
        self.assertTrue(fewest_posts(ONE, [(1, 1)], [(1, 1)], [(0, 0)], 0) == Screen(()))
        self.assertTrue(fewest_posts(ONE, [(1, 1)], [(1, 1)], [], 3) == Screen(()))
        self.assertTrue(fewest_posts(ONE, [(0, 1)], [(2, 1)], [], 0) == NoScreen(0))
        self.assertTrue(fewest_posts(points=HALF_WAY, most=3, wishes=[(2, 1)], lamps=[(0, 1)], room=ONE) == Screen(HALF_WAY))
        self.assertTrue(fewest_posts(LIKE_W, [(0, 1)], [(2, 3)], [(0, 0), (1, 1)], 3) == Screen(()))

    def test_by_trial_of_all_lots(self):
        words = {}
        for room, lamps, wishes, points in cases(172, 120) + guarded(174, 10) + [
                (ONE, [(0, 1)], [(2, 1)], HALF_WAY + [(0, 0), (2, 2)]), (TWO, [(0, 1)], [(4, 1)], [(2, n) for n in range(3)]),
                (ONE, [(1, 0)], [(1, 2)], [(0, 1), (1, 1), (2, 1), (0, 0)]), (LIKE_W, [(0, 1)], [(2, 3)], [(1, 1)])]:
            for most in (0, 1, 2, 3):
                lots = [lot for many in range(most + 1) for lot in combinations(sorted(points), many)
                        if lit_pair(room, lamps, wishes, lot) is None]
                told = fewest_posts(room, lamps, wishes, points, most)
                self.assertTrue(told == (Screen(lots[0]) if lots else NoScreen(most)))
                key = (told.word, len(told.posts) if told else most)
                words[key] = words.get(key, 0) + 1
        self.assertEqual([("noscreen", n) for n in range(4)], sorted(words)[:4])
        self.assertIn(("screen", 0), words)
        self.assertIn(("screen", 3), words)

    def test_the_least_lot(self):
        # of two rows of three posts each that of the least lot
        four = Room([(0, 0)], fine=4)
        lamps, wishes = [(0, 2)], [(4, 2)]
        middle = [(2, y) for y in range(5)]
        told = fewest_posts(four, lamps, wishes, middle[::-1], 3)
        lots = [lot for lot in combinations(middle, 3) if lit_pair(four, lamps, wishes, lot) is None]
        self.assertTrue(told == (Screen(lots[0]) if lots else NoScreen(3)))

    def test_errors(self):
        call = fewest_posts
        self.assert_bad(BadRoom, "room", ODD + (5,), lambda value: call(value, None, None, None, None))
        for value in Screens.bad_places(self):
            self.assert_raises(BadPlace, "lamps", lambda: call(TWO, value, None, None, None))
            self.assert_raises(BadPlace, "wishes", lambda: call(TWO, [(1, 1)], value, None, None))
        points = points_in(TWO)
        self.assertEqual(15, len(points))
        for value in ODD + (5, (1, 1), [(9, 9)], [(1, 1), [1, 1]], [(1, 1), None], points[:13], points):
            if value != []:
                self.assert_raises(BadPlace, "points", lambda: call(TWO, [(1, 1)], [(1, 1)], value, None))
        self.assert_bad(BadNumber, "most", NO_INTEGERS + (-1, 4, 10 ** 40),
                        lambda value: call(TWO, [(1, 1)], [(1, 1)], [(1, 1)], value))
        for some in ([(1, 1)], [(0, 0), [0, 1]]):
            self.assert_raises(Misfit, "points", lambda: call(TWO, [(1, 1), (1, 2)], [(0, 1)], some, 3))
        twelve = [point for point in points if point not in ((1, 1), (3, 1))][:12]
        self.assertEqual("noscreen", call(TWO, [(1, 1)], [(3, 1)], twelve, 3).word)


if __name__ == "__main__":
    unittest.main()
