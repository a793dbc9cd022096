"""Lit and dark: the papers, whether they tell the truth, and their check."""

import random
import unittest
from math import gcd
from unittest import mock

import oracle
from common import (
    BLOCK, ELL, GATES, NO_POINTS, ODD, RING, AlwaysEqual, Checks, OwnList, grown_rooms,
)

from neverhit.books import book_of, books_from
from neverhit.changed import finer, finer_point
from neverhit.check_judged import shows_judged
from neverhit.errors import BadPlace, BadRoom, Misfit, TooMany
from neverhit.guards import guards_of
from neverhit.judged import Dark, Lit, judged
from neverhit.papers import Denial, Paper
from neverhit.places import places_of, points_in, squares_at
from neverhit.rooms import Room

ONE = Room([(0, 0)], fine=2)
LIKE_W = Room([(0, 0), (0, 1), (1, 1), (1, 2), (2, 2)])
BENT_U = Room([(0, 0), (0, 1), (1, 1), (1, 2), (2, 1)])
SIX = [(0, 1), (0, 3), (2, 1), (2, 3), (4, 1), (4, 3)]
FOUR = Room([(0, 0)], fine=4)


def cases(seed, many):
    """So many rooms, each with a lamp, a wish and posts."""
    chance = random.Random(seed)
    found = []
    for room in grown_rooms(seed, many * 3, (1, 2, 3)):
        places = places_of(room)
        if len(places) > 1 and room.many < 6 and len(found) < many:
            lamp, wish = chance.sample(places, 2)
            points = [point for point in points_in(room) if point not in (lamp, wish)]
            found.append((room, lamp, wish, chance.sample(points, min(len(points), chance.choice((0, 1, 4, 9, 20))))))
    return found


def guarded(seed, many):
    """So many rooms made twice as fine, each with a lamp, a wish and their guards, from which perhaps one is missing."""
    chance = random.Random(seed)
    found = []
    for room, lamp, wish, _ in cases(seed, many):
        posts = guards_of(room, lamp, wish)
        if len(posts) < 13:
            if chance.random() < 0.4:
                posts = chance.sample(posts, len(posts) - 1)
            ends = [finer_point(room, 2, point) for point in (lamp, wish)]
            found.append((finer(room, 2), *ends, list(posts)))
    return found


def hits(room, lamp, wish, posts, most):
    """All rays by small ways that come to the wish, each as a square, a way and steps."""
    return [(square, (p, q), steps) for square in squares_at(room, lamp)
            for p in range(-most, most + 1) for q in range(-most, most + 1) if gcd(p, q) == 1
            for steps in oracle.comes_by(room, square, lamp, (p, q), wish, posts)]


class PapersOfBoth(Checks):

    def test_lit(self):
        lit = Lit(0, [1, -2], 5)
        self.assertEqual(("lit", (0, (1, -2), 5)), (lit.word, lit.parts))
        self.assertEqual((0, (1, -2), 5), (lit.square, lit.way, lit.steps))
        self.assertTrue(lit == Lit(steps=5, way=(1, -2), square=0))
        self.assertFalse(lit == Lit(0, (1, -2), 6))
        self.assertIs(True, bool(lit))
        self.assertEqual((Paper,), Lit.__bases__)

    def test_dark(self):
        dark = Dark([[1, [2]], ()])
        self.assertEqual(("dark", (((1, (2,)), ()),)), (dark.word, dark.parts))
        self.assertEqual(((1, (2,)), ()), dark.books)
        self.assertTrue(dark == Dark(books=((1, (2,)), [])))
        self.assertFalse(dark == Dark(()))
        self.assertFalse(Dark(()) == Lit(0, (1, 0), 1))
        self.assertIs(False, bool(dark))
        self.assertEqual((Denial,), Dark.__bases__)

    def test_any_parts(self):
        for value in ODD:
            self.assertEqual(3, len(Lit(value, value, value).parts))
            self.assertEqual(1, len(Dark(value).parts))


class Judging(Checks):

    def test_what_is_told_of_small_rooms(self):
        words = {}
        for room, lamp, wish, posts in cases(50, 60) + guarded(55, 30):
            try:
                paper = judged(room, lamp, wish, posts)
            except TooMany:
                continue
            words[paper.word] = words.get(paper.word, 0) + 1
            if paper:
                self.assertIs(Lit, paper.__class__)
                found = oracle.comes_by(room, paper.square, lamp, paper.way, wish, posts)
                self.assertIn(paper.steps, found)
                self.assertIn(paper.square, squares_at(room, lamp))
            else:
                self.assertEqual([], hits(room, lamp, wish, posts, 4))
            self.assertTrue(shows_judged(room, lamp, wish, posts, paper))
            self.assertTrue(paper == judged(room, list(lamp), list(wish), [list(post) for post in posts]))
        self.assertGreater(words["lit"], 10)
        self.assertGreater(words["dark"], 10)

    def test_dark_from_the_two_places_of_a_room(self):
        for room in (LIKE_W, BENT_U):
            one, other = places_of(room)
            for lamp, wish in ((one, other), (other, one)):
                paper = judged(room, lamp, wish)
                self.assertIs(Dark, paper.__class__)
                self.assertEqual(books_from(book_of(room, lamp, wish, [])), paper.books)
                self.assertEqual([], hits(room, lamp, wish, (), 6))

    def test_the_list_is_closed_and_shows_nothing(self):
        for room, lamp, wish, posts in ((LIKE_W, (0, 1), (2, 3), []), (FOUR, (2, 2), (2, 4), SIX)):
            paper = judged(room, lamp, wish, posts)
            self.assertEqual("dark", paper.word)
            self.assertEqual(sorted(set(paper.books)), list(paper.books))
            self.assertIn(book_of(room, lamp, wish, posts).key, paper.books)
            for key in paper.books:
                for letter in "ab":
                    self.assertIn(oracle.leant_key(key, room.fine, letter), paper.books)
                for mark in key[3]:
                    for side in ("east", "north"):
                        self.assertNotEqual("wish", oracle.first_thing(key, room.fine, mark, side)[0])

    def test_by_hand(self):
        block = Room(BLOCK)
        self.assertTrue(judged(block, (1, 0), (1, 2)))
        self.assertTrue(judged(block, (1, 0), (1, 1), [(1, 2)]))
        # up to the wish it is by (1, 1); aslant the first grid point is (0, 1), (2, 1) or a corner
        self.assertTrue(judged(block, (1, 0), (1, 2), [(0, 1), (2, 1)]))
        self.assertFalse(judged(block, (1, 0), (1, 2), [(1, 1), (0, 1), (2, 1)]))
        self.assertTrue(judged(Room(ELL), (1, 0), (0, 1)))
        # the point between two shut sides in a line is seen from both of their faces
        for wish in ((1, 0), (2, 2)):
            self.assertTrue(judged(Room(*GATES), (1, 1), wish))

    def test_all_but_one_of_the_guards(self):
        for left_out in SIX:
            posts = [post for post in SIX if post != left_out]
            paper = judged(FOUR, (2, 2), (2, 4), posts)
            self.assertIn(paper.steps, oracle.comes_by(FOUR, 0, (2, 2), paper.way, (2, 4), posts))

    def test_lit_from_the_lamp_exactly_if_lit_from_the_wish(self):
        for room, lamp, wish, posts in cases(51, 30):
            if room.fine < 3:
                try:
                    self.assertEqual(bool(judged(room, lamp, wish, posts)), bool(judged(room, wish, lamp, posts)))
                except TooMany:
                    pass

    def test_names_lists_and_what_is_passed(self):
        lamp, wish, posts = [1, 1], [1, 2], [[0, 1], [2, 1]]
        paper = judged(room=ONE, lamp=lamp, wish=wish, posts=posts)
        self.assertTrue(paper == judged(ONE, (1, 1), (1, 2), ((2, 1), (0, 1))))
        self.assertEqual(([1, 1], [1, 2], [[0, 1], [2, 1]]), (lamp, wish, posts))
        self.assertTrue(judged(ONE, OwnList((1, 1)), (1, 2), OwnList()) == judged(ONE, (1, 1), (1, 2)))

    def test_errors(self):
        for call in (judged, lambda *told: shows_judged(*told, Dark(())), lambda *told: shows_judged(*told, None)):
            self.assert_bad(BadRoom, "room", ODD + (5,), lambda value: call(value, None, None, None))
            places = NO_POINTS + ((0, 0), (9, 9), (2, 2))
            self.assert_bad(BadPlace, "lamp", places, lambda value: call(ONE, value, None, None))
            self.assert_bad(BadPlace, "wish", places, lambda value: call(ONE, (1, 1), value, None))
            wrong = ODD + (5, (1, 1), [(9, 9)], [(0, 1), [0, 1]], [(0, 1), None])
            for value in wrong:
                if value != []:
                    self.assert_raises(BadPlace, "posts", lambda: call(ONE, (1, 1), (1, 1), value))
            self.assert_raises(Misfit, "wish", lambda: call(ONE, (1, 1), [1, 1], [(1, 1)]))
            self.assert_raises(Misfit, "posts", lambda: call(ONE, (1, 1), (1, 2), [(0, 1), [1, 1]]))
            self.assert_raises(Misfit, "posts", lambda: call(ONE, (1, 1), (1, 2), [(1, 2)]))

    def test_as_many_posts_as_may_be(self):
        room = Room(RING, fine=4)
        points = [point for point in points_in(room) if point not in ((1, 1), (1, 2))]
        self.assertTrue(judged(room, (1, 1), (1, 2), points[-60:]))
        self.assert_raises(BadPlace, "posts", lambda: judged(room, (1, 1), (1, 2), points[-61:]))

    def test_too_many_books(self):
        ring, double = Room(RING), Room(RING, fine=2)
        posts = list(guards_of(ring, (0, 1), (0, 2)))
        self.assertFalse(judged(double, (0, 2), (0, 4), posts))
        # posts that lie without order make more books of it, but do not make it lit
        posts.extend([post for post in ((1, 1), (5, 1), (1, 5), (3, 5)) if post not in posts])
        self.assert_raises(TooMany, "books", 5000, lambda: judged(double, (0, 2), (0, 4), posts))
        self.assertTrue(judged(double, (0, 2), (0, 4), posts[5:]))

    def test_just_as_many_as_may_be(self):
        with mock.patch("neverhit.books.MOST_BOOKS", 48):
            self.assertEqual(48, len(judged(LIKE_W, (0, 1), (2, 3)).books))
        with mock.patch("neverhit.books.MOST_BOOKS", 47):
            self.assert_raises(TooMany, "books", 47, lambda: judged(LIKE_W, (0, 1), (2, 3)))
            self.assertTrue(judged(Room([(0, 0)], fine=24), (1, 1), (1, 2)))


class CheckingLit(Checks):

    def test_against_walking(self):
        chance = random.Random(52)
        counts = {True: 0, False: 0}
        for room, lamp, wish, posts in cases(53, 50):
            for _ in range(12):
                way = chance.choice([(p, q) for p in range(-4, 5) for q in range(-4, 5) if gcd(p, q) == 1])
                square = chance.randrange(room.many)
                found = []
                if square in squares_at(room, lamp):
                    found = oracle.comes_by(room, square, lamp, way, wish, posts)
                for steps in set(found) | set(range(-1, 9)):
                    told = shows_judged(room, lamp, wish, posts, Lit(square, way, steps))
                    self.assertIs(steps in found, told)
                    counts[told] += 1
        self.assertGreater(counts[True], 30)

    def test_the_wish_may_be_passed_and_the_lamp_too(self):
        # down from (1, 1): at (1, 0), at the lamp's point again, at the wish behind 3 steps
        self.assertEqual([3], oracle.comes_by(ONE, 0, (1, 1), (0, -1), (1, 2), ()))
        self.assertTrue(shows_judged(ONE, (1, 1), (1, 2), (), Lit(0, (0, -1), 3)))
        # along the row of two squares the wish is passed behind 1 part, and again on the way back behind 5
        wide = Room([(0, 0), (1, 0)], fine=2)
        for steps in range(9):
            self.assertIs(steps in (1, 5), shows_judged(wide, (1, 1), (2, 1), (), Lit(0, (1, 0), steps)))

    def test_ways_of_any_size(self):
        # parts more by whole turns, there and back by 4 parts, do not change where a step leads
        far = 8 * 10 ** 30
        for way, told in (((far, 1), True), ((-far, -1), False), ((far + 1, far), False), ((far, far + 1), True)):
            self.assertIs(told, shows_judged(ONE, (1, 1), (1, 2), (), Lit(0, way, 1)))
        self.assertTrue(shows_judged(ONE, (1, 1), (1, 2), (), Lit(0, (10 ** 12, 1), 1)))
        self.assertFalse(shows_judged(ONE, (1, 1), (1, 2), (), Lit(0, (10 ** 12, 2), 1)))
        self.assertFalse(shows_judged(ONE, (1, 1), (1, 2), (), Lit(0, (0, 1), 10 ** 50)))
        for steps in range(5):
            paper = Lit(0, (10 ** 300, 10 ** 300 - 1), steps)
            self.assertIs(steps == 3, shows_judged(ONE, (1, 1), (1, 2), (), paper))

    def test_a_way_that_leads_out_of_the_square(self):
        two = Room([(0, 0), (1, 0)], fine=2)
        for square in (0, 1):
            self.assertTrue(shows_judged(two, (2, 1), (3, 2), (), Lit(square, (1, 1), 1)))
            self.assertTrue(shows_judged(two, (2, 0), (3, 1), (), Lit(square, (1, -1), 1)))
        self.assertFalse(shows_judged(two, (1, 1), (3, 1), (), Lit(1, (1, 0), 2)))
        self.assertTrue(shows_judged(two, (1, 1), (3, 1), (), Lit(0, (1, 0), 2)))

    def test_bent_parts(self):
        for square, way, steps in (
            (False, (0, 1), 1), (0, (0, True), 1), (0, (False, 1), 1), (0, (0, 1), True), (None, (0, 1), 1),
            (0, None, 1), (0, (0, 1), None), (0, "01", 1), (0, (0, 1, 0), 1), (0, (0, 0), 1), (0, (0, 2), 1),
            (0, (0, 3), 1), (-1, (0, 1), 1), (1, (0, 1), 1), (0, (0, 1), 0), (0, (0, 1), -3), (0, (0, 1), 1.0),
            (0.0, (0, 1), 1), ("0", (0, 1), 1), ((0,), (0, 1), 1), (0, (0.0, 1.0), 1), (AlwaysEqual(), (0, 1), 1),
            (0, AlwaysEqual(), 1), (0, (0, 1), AlwaysEqual()), (0, (AlwaysEqual(), 1), 1),
        ):
            self.assertIs(False, shows_judged(ONE, (1, 1), (1, 2), (), Lit(square, way, steps)))
        self.assertIs(True, shows_judged(ONE, (1, 1), (1, 2), (), Lit(0, [0, 1], 1)))

    def test_other_values(self):
        values = ODD + (5, Paper("lit", 0, (0, 1), 1), (0, (0, 1), 1), Denial("lit", 0, (0, 1), 1), Paper("dark", ()))
        for value in values:
            self.assertIs(False, shows_judged(ONE, (1, 1), (1, 2), (), value))
            self.assertIs(False, shows_judged(LIKE_W, (0, 1), (2, 3), (), value))
        self.assertIs(True, shows_judged(room=ONE, lamp=[1, 1], wish=[1, 2], posts=[], value=Lit(0, (0, 1), 1)))


class CheckingDark(Checks):

    def setUp(self):
        self.books = judged(LIKE_W, (0, 1), (2, 3)).books

    def shown(self, books, posts=()):
        """Whether the Dark of some books is right."""
        told = shows_judged(LIKE_W, (0, 1), (2, 3), posts, Dark(books))
        self.assertIn(told, (True, False))
        return told

    def test_in_any_order_and_as_lists(self):
        chance = random.Random(54)
        for _ in range(3):
            mixed = chance.sample(self.books, len(self.books))
            self.assertIs(True, self.shown(mixed))
        self.assertIs(True, self.shown([[list(row) for row in key] for key in self.books]))

    def test_left_out_or_told_twice(self):
        for at in range(len(self.books)):
            self.assertIs(False, self.shown(self.books[:at] + self.books[at + 1:]))
        self.assertIs(False, self.shown(self.books + self.books[:1]))
        self.assertIs(False, self.shown(()))
        begin = book_of(LIKE_W, (0, 1), (2, 3), ()).key
        self.assertIs(False, self.shown([begin]))
        self.assertIs(False, self.shown([key for key in self.books if key != begin]))

    def test_more_keys_may_be_told(self):
        # another closed list that shows no wish does no harm; one that shows a wish, or is not closed, does
        alone = books_from(book_of(Room(BLOCK), (1, 0), (1, 2), [(1, 1), (0, 1), (2, 1)]))
        self.assertIs(True, self.shown(self.books + alone))
        self.assertIs(False, self.shown(self.books + alone[:-1]))
        self.assertIs(False, self.shown(self.books + books_from(book_of(Room(ELL), (1, 0), (0, 1), ()))))
        self.assertIs(False, self.shown(alone))

    def test_bent_in_one_part(self):
        def put(value, path, new):
            if not path:
                return new
            return value[:path[0]] + (put(value[path[0]], path[1:], new),) + value[path[0] + 1:]
        key = self.books[0]
        for path in ([], [0], [1], [2], [3], [4], [5], [0, 0], [1, 3], [2, 4], [3, 0], [3, 0, 0], [3, 1, 1], [4, 0], [4, 0, 2]):
            for new in (None, True, False, 7, 99, -1, "", "0", 0.0, (), (0,), (0, 0, 0), ((0, 0, 0),), {}, AlwaysEqual()):
                bent = put(key, path, new)
                same = isinstance(new, (int, tuple)) and not isinstance(new, bool) and bent == key
                self.assertIs(same, self.shown(put(self.books, [0] + path, new)), (path, new))
        self.assertIs(False, self.shown((key + ((),),) + self.books[1:]))
        self.assertIs(False, self.shown((key[:5],) + self.books[1:]))
        self.assertIs(False, self.shown((key[::-1],) + self.books[1:]))

    def test_numbered_another_way(self):
        sheet = book_of(LIKE_W, (0, 1), (2, 3), ())
        # the begin's book as the room numbers it is no key, as a key is numbered from the first lamp
        told = (sheet.sheet.right, sheet.sheet.up, sheet.sheet.corners, sheet.lamps, sheet.wishes, sheet.posts)
        self.assertNotEqual(told, sheet.key)
        self.assertIs(False, self.shown(self.books + (told,)))

    def test_of_another_case(self):
        # the room is led to itself by half a turn, and some leaning of the other room's sheet is its sheet
        self.assertIs(True, shows_judged(LIKE_W, (2, 3), (0, 1), (), Dark(self.books)))
        self.assertIs(True, shows_judged(BENT_U, (0, 1), (2, 1), (), Dark(self.books)))
        self.assertIs(False, self.shown(self.books, [(0, 0)]))
        posts = judged(LIKE_W, (0, 1), (2, 3), [(0, 0)])
        self.assertIs(True, shows_judged(LIKE_W, (0, 1), (2, 3), [(0, 0)], posts))
        self.assertIs(False, shows_judged(ONE, (1, 1), (1, 2), (), Dark(self.books)))
        closed = books_from(book_of(ONE, (1, 1), (1, 2), ()))
        self.assertIs(False, shows_judged(ONE, (1, 1), (1, 2), (), Dark(closed)))

    def test_any_values(self):
        for value in ODD + (5, [None], [[]], [((), (), (), (), (), ())], "abc", {0: 1}, [(1, 2, 3, 4, 5, 6)]):
            self.assertIs(False, self.shown(value))
            self.assertIs(False, self.shown(self.books[1:] + (value,)))

    def test_as_guards_tell_them(self):
        for room in (Room([(0, 0), (1, 0)]), Room(ELL), Room(BLOCK)):
            lamp, wish = places_of(room)[:2]
            double = Room(room.squares, fine=2)
            ends = [(2 * x, 2 * y) for x, y in (lamp, wish)]
            posts = guards_of(room, lamp, wish)
            paper = judged(double, *ends, posts)
            self.assertEqual("dark", paper.word)
            self.assertIs(True, shows_judged(double, *ends, posts, paper))


if __name__ == "__main__":
    unittest.main()
