"""Guards, needless and thinned posts, shots past all posts but one."""

import random
import unittest
from math import gcd

import oracle
from common import BENT, BLOCK, ELL, GATES, NO_POINTS, ODD, RING, ROW, SLAB, Checks, grown_rooms

from neverhit.changed import finer
from neverhit.check_judged import shows_judged
from neverhit.errors import BadPlace, BadRoom, Misfit, TooMany
from neverhit.guards import Thin, guards_of, needless, shots_past, sixteen, stops_all, thinned
from neverhit.judged import Lit, judged
from neverhit.papers import Paper
from neverhit.places import places_of, points_in, squares_at
from neverhit.rooms import Room

ONE = Room([(0, 0)], fine=2)
TWO = Room([(0, 0), (1, 0)], fine=2)
SOME = ((0, 2), (2, 2), (4, 2), (6, 2), (8, 2))
WIDE = finer(TWO, 2)


def pairs(seed, many, fines):
    """So many rooms, each with a lamp and a wish."""
    chance = random.Random(seed)
    found = []
    for room in grown_rooms(seed, many * 3, fines):
        if len(places_of(room)) > 1 and len(found) < many:
            found.append((room, *chance.sample(places_of(room), 2)))
    return found


def folded(number, side):
    """A number of parts folded, side by side, upon the first one."""
    while number < 0:
        number += 2 * side
    over = number % (2 * side)
    return over if over <= side else 2 * side - over


class Sixteen(Checks):

    def test_by_hand(self):
        self.assertEqual(((0, 1), (0, 3), (2, 1), (2, 3), (4, 1), (4, 3)), sixteen(ONE, (1, 1), (1, 2)))
        self.assertEqual(((1, 1),), sixteen(wish=(0, 1), lamp=[1, 0], room=Room(ELL)))
        four = Room([(0, 0)], fine=4)
        self.assertEqual(
            tuple((x, y) for x in (1, 3, 5, 7) for y in (0, 2, 6, 8)), sixteen(four, (1, 1), [2, 1]))
        five = Room([(7, -3)], fine=5)
        self.assertEqual(tuple((x, y) for x in (1, 3, 7, 9) for y in (1, 5, 9)), sixteen(five, (36, -13), (37, -12)))

    def test_by_the_words(self):
        for room, lamp, wish in pairs(70, 60, (1, 2, 3, 5)):
            fine = room.fine
            (ax, ay), (bx, by) = [[folded(number, fine) for number in point] for point in (lamp, wish)]
            lots = []
            for a, b in ((ax, bx), (ay, by)):
                lots.append({a + b, max(a - b, b - a), 2 * fine - (a + b), 2 * fine - max(a - b, b - a)})
            self.assertEqual(tuple(sorted((x, y) for x in lots[0] for y in lots[1])), sixteen(room, lamp, wish))


class Guards(Checks):

    def test_by_hand(self):
        self.assertEqual(SOME, guards_of(TWO, (1, 0), (1, 2)))
        self.assertEqual(((1, 1), (1, 3), (3, 1)), guards_of(room=Room(ELL), wish=[0, 1], lamp=[1, 0]))

    def test_by_the_words(self):
        for room, lamp, wish in pairs(71, 40, (1, 2, 3)) + [(Room(*BENT), *places_of(Room(*BENT))[:2])]:
            double = Room(room.squares, room.shut, 2 * room.fine)
            wanted = []
            for point in points_in(double):
                if tuple(folded(number, double.fine) for number in point) not in sixteen(room, lamp, wish):
                    continue
                grid = oracle.grid_point(double, point)
                kinds = {grid and oracle.kind(double, square, grid) for square in oracle.owners(double, point)}
                if point not in ((2 * lamp[0], 2 * lamp[1]), (2 * wish[0], 2 * wish[1])) and kinds != {"corner"}:
                    wanted.append(point)
            self.assertEqual(tuple(wanted), guards_of(room, lamp, wish))
            self.assertLessEqual(len(wanted), 16 * room.many)

    def test_they_stop_all_rays_of_small_ways(self):
        for room, lamp, wish in pairs(72, 25, (1, 2)):
            double = Room(room.squares, room.shut, 2 * room.fine)
            ends = [(2 * x, 2 * y) for x, y in (lamp, wish)]
            posts = guards_of(room, lamp, wish)
            for square in squares_at(double, ends[0]):
                for p in range(-4, 5):
                    for q in range(-4, 5):
                        if gcd(p, q) == 1:
                            self.assertEqual([], oracle.comes_by(double, square, ends[0], (p, q), ends[1], posts, 300))

    def test_they_stop_all(self):
        for room in (Room([(0, 0), (1, 0)]), Room(ELL), Room(BLOCK), Room(*GATES), Room(*BENT), Room(RING), Room(SLAB)):
            lamp, wish = places_of(room)[:2]
            posts = guards_of(room, lamp, wish)
            self.assertIs(True, stops_all(finer(room, 2), (2 * lamp[0], 2 * lamp[1]), (2 * wish[0], 2 * wish[1]), posts))

    def test_as_fine_as_may_be(self):
        room = Room([(0, 0)], fine=12)
        self.assertEqual(16, len(guards_of(room, (1, 2), (4, 7))))
        fine = Room([(0, 0)], fine=13)
        self.assertEqual(16, len(sixteen(fine, (1, 2), (4, 7))))
        self.assert_raises(Misfit, "room", lambda: guards_of(fine, (1, 2), (4, 7)))
        self.assert_raises(Misfit, "wish", lambda: guards_of(fine, (1, 2), (1, 2)))
        self.assert_raises(BadPlace, "wish", lambda: guards_of(fine, (1, 2), (0, 0)))

    def test_errors(self):
        for call in (sixteen, guards_of):
            self.assert_bad(BadRoom, "room", ODD + (5,), lambda value: call(value, None, None))
            places = NO_POINTS + ((0, 0), (9, 9))
            self.assert_bad(BadPlace, "lamp", places, lambda value: call(ONE, value, None))
            self.assert_bad(BadPlace, "wish", places, lambda value: call(ONE, (1, 1), value))
            self.assert_raises(Misfit, "wish", lambda: call(ONE, [1, 1], (1, 1)))


class Posts(Checks):

    def cases(self):
        """Small rooms with guards, and some posts more, as room, lamp, wish, posts."""
        chance = random.Random(73)
        found = []
        for room, lamp, wish in pairs(74, 60, (1, 2)):
            double = Room(room.squares, room.shut, 2 * room.fine)
            ends = [(2 * x, 2 * y) for x, y in (lamp, wish)]
            posts = list(guards_of(room, lamp, wish))
            left = [point for point in points_in(double) if point not in posts + ends]
            posts = chance.sample(left, min(2, len(left))) + posts
            if room.many < 4 and len(posts) < 11 and room.fine * room.many < 4:
                found.append((double, *ends, posts))
        return found[:14]

    def test_by_hand(self):
        self.assertEqual(((4, 2),), needless(WIDE, (2, 0), (2, 4), SOME))
        self.assertEqual((SOME[0], SOME[1], SOME[3], SOME[4]), thinned(WIDE, (2, 0), (2, 4), SOME).posts)
        shots = shots_past(WIDE, (2, 0), (2, 4), SOME)
        self.assertEqual([Lit, Lit, None, Lit, Lit], [shot and shot.__class__ for shot in shots])
        self.assertIs(True, stops_all(room=WIDE, lamp=[2, 0], wish=[2, 4], posts=[list(post) for post in SOME]))
        self.assertIs(False, stops_all(Room(ELL), (1, 0), (0, 1), []))
        self.assertIs(False, stops_all(WIDE, (2, 0), (2, 4), SOME[1:]))

    def test_against_judged_for_all_lots(self):
        for room, lamp, wish, posts in self.cases():
            self.assertIs(True, stops_all(room, lamp, wish, posts))
            others = {post: [other for other in posts if other != post] for post in posts}
            dark = [post for post in sorted(posts) if not judged(room, lamp, wish, others[post])]
            self.assertEqual(tuple(dark), needless(room, lamp, wish, posts))
            shots = shots_past(room, lamp, wish, posts)
            for post, shot in zip(sorted(posts), shots, strict=True):
                self.assertIs(post in dark, shot is None)
                if shot:
                    self.assertIs(Lit, shot.__class__)
                    self.assertTrue(shows_judged(room, lamp, wish, others[post], shot))
                    self.assertIn(shot.steps, oracle.comes_by(room, shot.square, lamp, shot.way, wish, others[post]))
            thin = thinned(room, lamp, wish, posts)
            self.assertIs(Thin, thin.__class__)
            self.assertEqual(sorted(set(thin.posts)), list(thin.posts))
            self.assertLessEqual(set(thin.posts), set(posts))
            self.assertIs(True, stops_all(room, lamp, wish, thin.posts))
            self.assertEqual((), needless(room, lamp, wish, thin.posts))
            self.assertNotIn(None, shots_past(room, lamp, wish, thin.posts))

    def test_dark_without_posts(self):
        like_w = Room([(0, 0), (0, 1), (1, 1), (1, 2), (2, 2)])
        posts = [(1, 1), (0, 0)]
        self.assertEqual((((0, 0), (1, 1)), ()), (
            needless(like_w, (0, 1), (2, 3), posts), thinned(like_w, (0, 1), (2, 3), posts).posts))
        self.assertEqual((None, None), shots_past(like_w, (0, 1), (2, 3), posts))
        self.assertEqual(((), ()), (needless(like_w, (0, 1), (2, 3), []), shots_past(like_w, (0, 1), (2, 3), ())))

    def test_what_is_passed_stays(self):
        posts = [list(post) for post in SOME[::-1]]
        for call in (stops_all, needless, thinned, shots_past):
            call(WIDE, (2, 0), (2, 4), posts)
            self.assertEqual([list(post) for post in SOME[::-1]], posts)
        self.assertEqual(needless(WIDE, (2, 0), (2, 4), SOME), needless(posts=posts, wish=[2, 4], lamp=[2, 0], room=WIDE))
        self.assertTrue(thinned(WIDE, (2, 0), (2, 4), SOME) == thinned(posts=posts, wish=[2, 4], lamp=[2, 0], room=WIDE))

    def test_the_paper(self):
        thin = Thin([[0, 1], (2, 3)])
        self.assertEqual(("thin", (((0, 1), (2, 3)),), ((0, 1), (2, 3))), (thin.word, thin.parts, thin.posts))
        self.assertTrue(thin == Thin(posts=((0, 1), (2, 3))))
        self.assertIs(True, bool(Thin(())))
        self.assertEqual((Paper,), Thin.__bases__)
        for value in ODD:
            self.assertEqual(1, len(Thin(value).parts))

    def test_errors(self):
        for call in (stops_all, needless, thinned, shots_past):
            self.assert_bad(BadRoom, "room", ODD + (5,), lambda value: call(value, None, None, None))
            places = NO_POINTS + ((0, 0), (9, 9))
            self.assert_bad(BadPlace, "lamp", places, lambda value: call(ONE, value, None, None))
            self.assert_bad(BadPlace, "wish", places, lambda value: call(ONE, (1, 1), value, None))
            for value in ODD + (5, (1, 1), [(9, 9)], [(0, 1), [0, 1]], [(0, 1), None]):
                if value != []:
                    self.assert_raises(BadPlace, "posts", lambda: call(ONE, (1, 1), (1, 1), value))
            self.assert_raises(Misfit, "wish", lambda: call(ONE, (1, 1), [1, 1], [(1, 1)]))
            self.assert_raises(Misfit, "posts", lambda: call(ONE, (1, 1), (1, 2), [(0, 1), [1, 1]]))
        for call in (needless, thinned, shots_past):
            self.assert_raises(Misfit, "posts", lambda: call(Room(ELL), (1, 0), (0, 1), []))
            self.assert_raises(Misfit, "posts", lambda: call(WIDE, (2, 0), (2, 4), SOME[1:]))

    def test_too_many_books(self):
        ring, double = Room(RING), Room(RING, fine=2)
        posts = list(guards_of(ring, (0, 1), (0, 2)))
        posts.extend([post for post in ((1, 1), (5, 1), (1, 5), (3, 5)) if post not in posts])
        for call in (stops_all, needless, thinned, shots_past):
            self.assert_raises(TooMany, "books", 5000, lambda: call(double, (0, 2), (0, 4), posts))

    def test_rows(self):
        row = Room(ROW)
        posts = guards_of(row, (1, 0), (2, 1))
        self.assertIs(True, stops_all(finer(row, 2), (2, 0), (4, 2), posts))


if __name__ == "__main__":
    unittest.main()
