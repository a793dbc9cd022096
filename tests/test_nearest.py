"""Sights within a length, the shortest one, and light that comes home."""

import random
import unittest
from math import gcd
from unittest import mock

import oracle
from common import BENT, BLOCK, ELL, GATES, NO_INTEGERS, NO_POINTS, ODD, RING, SLAB, Checks, grown_rooms

from neverhit.check_judged import shows_judged
from neverhit.errors import BadNumber, BadPlace, BadRoom, Misfit, TooMany
from neverhit.guards import guards_of
from neverhit.judged import Lit, judged
from neverhit.nearest import homeward, rays_within, shortest
from neverhit.places import places_of, points_in, squares_at
from neverhit.rays import length_of
from neverhit.rooms import Room

ONE = Room([(0, 0)], fine=2)
TWO = Room([(0, 0), (1, 0)])
LIKE_W = Room([(0, 0), (0, 1), (1, 1), (1, 2), (2, 2)])


def leaves(room, square, point, way):
    """Whether a way leaves a square at a point."""
    i, j = room.squares[square]
    for number, size, step in ((point[0], i, way[0]), (point[1], j, way[1])):
        if (number == size * room.fine and step < 0) or (number == (size + 1) * room.fine and step > 0):
            return True
    return False


def sights(room, lamp, place, posts, far):
    """All sights within a length, by walking each way."""
    found = []
    sizes = range(-int(far ** 0.5) - 1, int(far ** 0.5) + 2)
    for square in squares_at(room, lamp):
        for way in [(p, q) for p in sizes for q in sizes if gcd(p, q) == 1]:
            if leaves(room, square, lamp, way):
                continue
            ray = oracle.Ray(room, square, lamp, way)
            steps = 1
            while length_of(way, steps) <= far:
                ray.step()
                if ray.ended:
                    break
                if ray.point == place:
                    found.append((length_of(way, steps), square, way, steps))
                if ray.point in posts or ray.point in (lamp, place):
                    break
                steps += 1
    return tuple(sorted(found))


def cases(seed, many):
    """So many rooms, each with a lamp, a wish and posts."""
    chance = random.Random(seed)
    found = []
    for room in grown_rooms(seed, 3 * many, (1, 2, 3)) + [Room(*GATES), Room(*BENT)]:
        places = places_of(room)
        if len(places) > 1 and len(found) < many:
            lamp, wish = chance.sample(places, 2)
            points = [point for point in points_in(room) if point not in (lamp, wish)]
            found.append((room, lamp, wish, chance.sample(points, min(len(points), chance.choice((0, 1, 3, 7))))))
    return found


class Within(Checks):

    def test_by_walking_each_way(self):
        chance = random.Random(90)
        counts = {0: 0}
        for room, lamp, wish, posts in cases(91, 50):
            far = chance.choice((1, 2, 5, 13, 40, 90))
            told = rays_within(room, lamp, wish, posts, far)
            self.assertEqual(sights(room, lamp, wish, posts, far), told)
            counts[len(told)] = counts.get(len(told), 0) + 1
            for length, square, way, steps in told:
                self.assertEqual(length_of(way, steps), length)
                self.assertTrue(shows_judged(room, lamp, wish, posts, Lit(square, way, steps)))
        self.assertGreater(len(counts), 8)

    def test_by_hand(self):
        self.assertEqual(
            ((1, 0, (0, 1), 1), (5, 0, (-2, 1), 1), (5, 0, (2, 1), 1)), rays_within(ONE, (1, 1), (1, 2), (), 9))
        self.assertEqual(((1, 0, (0, 1), 1),), rays_within(ONE, (1, 1), (1, 2), [(0, 0), (1, 0)], 4))
        # along the side between two squares both have the way
        self.assertEqual(((1, 0, (0, 1), 1), (1, 1, (0, 1), 1), (5, 0, (-2, 1), 1), (5, 1, (2, 1), 1)),
                         rays_within(far=5, posts=[], wish=[1, 1], lamp=[1, 0], room=TWO))
        # a post on the way, one beside it
        self.assertEqual((), rays_within(Room([(0, 0)], fine=4), (1, 1), (3, 1), [(2, 1)], 4))
        self.assertEqual(((4, 0, (1, 0), 2),), rays_within(Room([(0, 0)], fine=4), (1, 1), (3, 1), [(2, 2)], 4))

    def test_at_the_bounds_of_length(self):
        for far in (1, 4, 5, 8, 9):
            told = rays_within(ONE, (1, 1), (1, 2), (), far)
            self.assertEqual(tuple(s for s in rays_within(ONE, (1, 1), (1, 2), (), 2000) if s[0] <= far), told)
        told = rays_within(ONE, (1, 1), (1, 2), [], 2000)
        self.assertEqual(sorted(told), list(told))
        # in the room that is folded out the wish stands at all (1 + 2 m, 2 + 4 n)
        wanted = [(p * p + q * q, 0, (p, q), 1) for p in range(-44, 45) for q in range(-44, 45)
                  if gcd(p, q) == 1 and p * p + q * q <= 2000 and p % 2 == 0 and q % 4 == 1]
        self.assertEqual(tuple(sorted(wanted)), tuple(s for s in told if s[3] == 1))

    def test_back_from_the_wish_as_long(self):
        for room, lamp, wish, posts in cases(92, 40):
            there, back = rays_within(room, lamp, wish, posts, 60), rays_within(room, wish, lamp, posts, 60)
            # one along a line of the grid is told from each of the squares that have it
            lengths = [sorted(sight[0] for sight in told if not is_along_line(room, place, sight[2]))
                       for told, place in ((there, lamp), (back, wish))]
            self.assertEqual(*lengths)
            self.assertEqual([sight[0] for sight in there[:1]], [sight[0] for sight in back[:1]])

    def test_turned_back_by_hand(self):
        there = rays_within(ONE, (1, 1), (1, 2), (), 50)
        self.assertEqual([told[0] for told in there], [told[0] for told in rays_within(ONE, (1, 2), (1, 1), (), 50)])

    def test_what_is_passed_stays(self):
        posts = [[2, 1], [0, 1]]
        rays_within(ONE, [1, 1], [1, 2], posts, 50), shortest(ONE, [1, 1], [1, 2], posts)
        self.assertEqual([[2, 1], [0, 1]], posts)

    def test_errors(self):
        self.assert_bad(BadRoom, "room", ODD + (5,), lambda value: rays_within(value, None, None, None, None))
        places = NO_POINTS + ((0, 0), (9, 9))
        self.assert_bad(BadPlace, "lamp", places, lambda value: rays_within(ONE, value, None, None, None))
        self.assert_bad(BadPlace, "wish", places, lambda value: rays_within(ONE, (1, 1), value, None, None))
        for value in ODD + (5, (1, 1), [(9, 9)], [(0, 1), [0, 1]], [(0, 1), None]):
            if value != []:
                self.assert_raises(BadPlace, "posts", lambda: rays_within(ONE, (1, 1), (1, 1), value, None))
        fars = NO_INTEGERS + (0, 2001, -1, 10 ** 50)
        self.assert_bad(BadNumber, "far", fars, lambda value: rays_within(ONE, (1, 1), (1, 1), [(1, 1)], value))
        self.assert_raises(Misfit, "wish", lambda: rays_within(ONE, (1, 1), [1, 1], [(1, 1)], 1))
        self.assert_raises(Misfit, "posts", lambda: rays_within(ONE, (1, 1), (1, 2), [(0, 1), [1, 1]], 2000))
        self.assert_raises(Misfit, "posts", lambda: rays_within(ONE, (1, 1), (1, 2), [[1, 2]], 2000))


def is_along_line(room, place, way):
    """Whether a way from a place goes along a line of the grid."""
    x, y = place
    return (way[0] == 0 and x % room.fine == 0) or (way[1] == 0 and y % room.fine == 0)


class Shortest(Checks):

    def test_the_least_of_all(self):
        for room, lamp, wish, posts in cases(93, 50):
            within = rays_within(room, lamp, wish, posts, 300)
            if within:
                paper = shortest(room, lamp, wish, posts)
                self.assertIs(Lit, paper.__class__)
                self.assertEqual(within[0][1:], paper.parts)

    def test_by_hand(self):
        self.assertEqual((0, (0, 1), 1), shortest(ONE, (1, 1), (1, 2)).parts)
        four = Room([(0, 0)], fine=4)
        self.assertEqual((0, (0, 1), 2), shortest(four, (2, 2), (2, 4), [(0, 3), (4, 3)]).parts)
        # past a post on the straight way by the west wall, past another one by the east wall
        self.assertEqual((0, (-2, 1), 2), shortest(four, (2, 2), (2, 4), [(2, 3)]).parts)
        self.assertEqual((0, (2, 1), 2), shortest(four, (2, 2), (2, 4), [(2, 3), (0, 3)]).parts)
        self.assertEqual((0, (0, 1), 1), shortest(TWO, wish=[1, 1], lamp=[1, 0], posts=()).parts)

    def test_far_ones(self):
        # all but one of the guards: the shortest one that comes past them
        room, ends = Room([(0, 0)], fine=4), ((2, 2), (2, 4))
        six = [(0, 1), (0, 3), (2, 1), (2, 3), (4, 1), (4, 3)]
        for post in six:
            posts = [other for other in six if other != post]
            paper = shortest(room, *ends, posts)
            self.assertEqual(rays_within(room, *ends, posts, 2000)[0][1:], paper.parts)

    def test_dark_ones(self):
        self.assertTrue(shortest(LIKE_W, (0, 1), (2, 3)) == judged(LIKE_W, (0, 1), (2, 3)))
        self.assertEqual("dark", shortest(LIKE_W, (0, 1), (2, 3)).word)
        self.assertEqual((), rays_within(LIKE_W, (0, 1), (2, 3), (), 2000))
        for room in (Room(ELL), Room(BLOCK), Room(SLAB)):
            lamp, wish = places_of(room)[:2]
            double, ends = Room(room.squares, fine=2), [(2 * x, 2 * y) for x, y in (lamp, wish)]
            posts = guards_of(room, lamp, wish)
            self.assertTrue(shortest(double, *ends, posts) == judged(double, *ends, posts))
            self.assertEqual((), rays_within(double, *ends, posts, 2000))

    def test_lit_but_farther_than_one_looks(self):
        with mock.patch("neverhit.nearest.MOST_LENGTH", 4), mock.patch("neverhit.nearest.NEAR", 2):
            self.assertEqual((0, (0, 1), 1), shortest(ONE, (1, 1), (1, 2)).parts)
            self.assert_raises(TooMany, "length", 4, lambda: shortest(ONE, (0, 1), (2, 1), [(1, 1)]))
        wide = Room([(n, 0) for n in range(8)], fine=24)
        self.assert_raises(TooMany, "length", 2500, lambda: shortest(wide, (1, 12), (191, 12)))
        near = shortest(wide, (1, 12), (51, 12))
        self.assertEqual((0, (1, 0), 50), near.parts)
        self.assert_raises(TooMany, "length", 2500, lambda: shortest(wide, (1, 12), (52, 12)))

    def test_too_many_books(self):
        ring, double = Room(RING), Room(RING, fine=2)
        posts = list(guards_of(ring, (0, 1), (0, 2)))
        posts.extend([post for post in ((1, 1), (5, 1), (1, 5), (3, 5)) if post not in posts])
        self.assert_raises(TooMany, "books", 5000, lambda: shortest(double, (0, 2), (0, 4), posts))

    def test_errors(self):
        self.assert_bad(BadRoom, "room", ODD + (5,), lambda value: shortest(value, None, None, None))
        places = NO_POINTS + ((0, 0), (9, 9))
        self.assert_bad(BadPlace, "lamp", places, lambda value: shortest(ONE, value, None, None))
        self.assert_bad(BadPlace, "wish", places, lambda value: shortest(ONE, (1, 1), value, None))
        for value in ODD + (5, (1, 1), [(9, 9)], [(0, 1), [0, 1]], [(0, 1), None]):
            if value != []:
                self.assert_raises(BadPlace, "posts", lambda: shortest(ONE, (1, 1), (1, 1), value))
        self.assert_raises(Misfit, "wish", lambda: shortest(ONE, (1, 1), [1, 1], [(1, 1)]))
        self.assert_raises(Misfit, "posts", lambda: shortest(ONE, (1, 1), (1, 2), [(0, 1), [1, 1]]))


class Home(Checks):

    def test_by_walking_each_way(self):
        for room, lamp, _, _ in cases(94, 40):
            for far in (1, 8, 50):
                self.assertEqual(sights(room, lamp, lamp, (), far), homeward(room, lamp, far))

    def test_by_hand(self):
        four = ((4, 0, (-1, 0), 2), (4, 0, (0, -1), 2), (4, 0, (0, 1), 2), (4, 0, (1, 0), 2))
        self.assertEqual(four, homeward(ONE, (1, 1), 8))
        self.assertEqual(four, homeward(far=4, lamp=[1, 1], room=ONE))
        self.assertEqual((), homeward(ONE, (1, 1), 3))
        # from the wall: up is out of the square, along it there are corners
        self.assertEqual(((16, 0, (0, -1), 4), (32, 0, (-1, -1), 4), (32, 0, (1, -1), 4)), homeward(ONE, (1, 2), 32))

    def test_errors(self):
        self.assert_bad(BadRoom, "room", ODD + (5,), lambda value: homeward(value, None, None))
        self.assert_bad(BadPlace, "lamp", NO_POINTS + ((0, 0), (9, 9)), lambda value: homeward(ONE, value, None))
        fars = NO_INTEGERS + (0, 2001, -1)
        self.assert_bad(BadNumber, "far", fars, lambda value: homeward(ONE, (1, 1), value))
        self.assertGreater(len(homeward(ONE, (1, 1), 2000)), 4)


if __name__ == "__main__":
    unittest.main()
