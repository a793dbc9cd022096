"""Bands: how rays by ways however great end, and what they meet, by leaning as by walking."""

import random
import unittest
from math import gcd

import oracle
from common import BENT, BLOCK, GATES, NO_INTEGERS, NO_POINTS, ODD, ROW, Checks, grown_rooms

from neverhit.bands import bands_of, end_of, met_by
from neverhit.errors import BadNumber, BadPlace, BadRoom, BadWay, Misfit
from neverhit.places import places_of, points_in, squares_at
from neverhit.rays import met_first, track_of
from neverhit.rooms import Room
from neverhit.sheets import onward, sheet_of

FAR = 10 ** 12
ONE = Room([(0, 0)], fine=2)
TWO = Room([(0, 0), (1, 0)])
WAYS = [(p, q) for p in range(-7, 8) for q in range(-7, 8) if gcd(p, q) == 1]
NO_WAYS = NO_POINTS + ((0, 0), (2, 4), (0, 2), (3, -3), (1, FAR + 1), (FAR + 1, 1), (True, 0), (1, 2, 3))


def sample_rays(seed, many):
    """So many rays of rooms."""
    chance = random.Random(seed)
    rays = []
    rooms = [room for room in grown_rooms(seed, many, (1, 2, 3)) + [Room(*GATES), Room(*BENT)] if places_of(room)]
    while len(rays) < many:
        room = chance.choice(rooms)
        place = chance.choice(places_of(room))
        rays.append((room, chance.choice(squares_at(room, place)), place, chance.choice(WAYS)))
    return rays


class Bands(Checks):

    def test_by_hand(self):
        self.assertEqual(((4, 2),), bands_of(TWO, (1, 0)))
        self.assertEqual(((2, 4),), bands_of(TWO, [0, 1]))
        self.assertEqual(((4, 2),), bands_of(room=TWO, way=(-1, 1)))
        self.assertEqual(((16, 2),), bands_of(Room(ROW), (1, 0)))
        self.assertEqual(((2, 16),), bands_of(Room(ROW), (0, -1)))
        # in the corner room the lower row has two squares, the upper one has one: in all copies 4 there and back, 2
        self.assertEqual(((2, 2), (4, 2)), bands_of(Room([(0, 0), (1, 0), (0, 1)]), (1, 0)))

    def test_lengths_by_walking(self):
        for room in grown_rooms(60, 25, (1,)):
            sheet = sheet_of(room)
            for way in ((1, 0), (0, 1), (1, 1), (2, 1), (1, 3), (3, 2)):
                begun = {}
                for number in range(sheet.many):
                    # no straight way by these from this point of a square meets a corner
                    first = (number, 6, 9)
                    mark, steps = onward(sheet, 24, first, way), 1
                    while mark != first:
                        mark, steps = onward(sheet, 24, mark, way), steps + 1
                    begun[steps] = begun.get(steps, 0) + 1
                # a band has as many of these points as it has squares, and is 24 parts for each of them around
                wanted = [(steps // 24, 24 * many // steps) for steps, many in sorted(begun.items())]
                self.assertEqual(tuple(wanted), bands_of(room, way))

    def test_signs_do_not_matter_and_all_squares_are_in_bands(self):
        for room in grown_rooms(61, 30, (1, 4)):
            for p, q in ((1, 0), (0, 1), (3, 2), (FAR, FAR - 1), (5, 8)):
                told = bands_of(room, (p, q))
                for way in ((-p, q), (p, -q), (-p, -q)):
                    self.assertEqual(told, bands_of(room, way))
                self.assertEqual(4 * room.many, sum(long * many for long, many in told))

    def test_errors(self):
        self.assert_bad(BadRoom, "room", ODD + (5,), lambda value: bands_of(value, None))
        self.assert_bad(BadWay, "way", NO_WAYS, lambda value: bands_of(TWO, value))


class Ends(Checks):

    def test_as_by_walking(self):
        ends = {}
        for ray in sample_rays(62, 400):
            track = track_of(*ray)
            steps = len(track.points) if track.end == "round" else len(track.points) - 1
            self.assertEqual((track.end, steps), end_of(*ray))
            self.assertEqual(oracle.track(*ray)[1], end_of(*ray)[0])
            ends[track.end] = ends.get(track.end, 0) + 1
        self.assertGreater(min(ends["corner"], ends["round"]), 50)

    def test_great_ways(self):
        for way, told in (
            ((FAR, 1), ("round", 4)), ((FAR - 1, -1), ("corner", 1)), ((-FAR, 1), ("round", 4)), ((1, FAR), ("round", 4)),
            ((FAR, FAR - 1), ("round", 4)), ((FAR - 1, FAR - 3), ("corner", 1)),
        ):
            if gcd(*way) == 1:
                self.assertEqual(told, end_of(ONE, 0, (1, 1), way))
        for room, square, place, (p, q) in sample_rays(63, 60):
            if p > 0 and q > 0:
                # so many leanings a more leave the sheet and its marks as they are
                leanings = leaning_period(room) * (FAR // (q * leaning_period(room) * 10))
                way = (p + q * leanings, q)
                self.assertEqual(end_of(room, square, place, (p, q)), end_of(room, square, place, way))

    def test_lists_and_names(self):
        self.assertEqual(("corner", 1), end_of(way=[1, 1], place=[1, 1], square=0, room=ONE))

    def test_errors(self):
        for call in (end_of, lambda *told: met_by(*told, [])):
            self.assert_bad(BadRoom, "room", ODD + (5,), lambda value: call(value, None, None, None))
            squares = NO_INTEGERS + (2, -1)
            self.assert_bad(BadNumber, "square", squares, lambda value: call(TWO, value, None, None))
            places = NO_POINTS + ((0, 0), (2, 0), (5, 5))
            self.assert_bad(BadPlace, "place", places, lambda value: call(TWO, 0, value, None))
            self.assert_bad(BadWay, "way", NO_WAYS, lambda value: call(TWO, 0, (1, 0), value))
            fine = Room(TWO.squares, fine=2)
            self.assert_raises(Misfit, "place", lambda: call(fine, 0, (3, 1), (1, 0)))
            self.assert_raises(Misfit, "place", lambda: call(fine, 1, (1, 1), (1, 0)))
            self.assert_raises(BadWay, "way", lambda: call(fine, 1, (1, 1), (2, 0)))


def leaning_period(room):
    """A number of leanings by a, a multiple of all lengths of rows, by which the sheet and its marks are as they were."""
    long = 1
    for many, _ in bands_of(room, (1, 0)):
        long = long * many // gcd(long, many)
    return long * room.fine


class Meeting(Checks):

    def test_as_by_walking(self):
        chance = random.Random(64)
        counts = {True: 0, False: 0}
        for ray in sample_rays(65, 300):
            points = points_in(ray[0])
            posts = chance.sample(points, min(len(points), chance.choice((1, 3, 9))))
            told = met_by(*ray, posts)
            self.assertEqual(met_first(*ray, posts), told)
            counts[told is None] += 1
            if told:
                self.assertEqual(told[1], track_of(*ray).points[told[0]])
        self.assertGreater(min(counts.values()), 50)

    def test_by_hand(self):
        self.assertEqual((1, (1, 2)), met_by(ONE, 0, (1, 1), (FAR, 1), [(1, 2), (1, 0)]))
        self.assertEqual((1, (1, 0)), met_by(ONE, 0, [1, 1], [FAR, -1], [[1, 2], [1, 0]]))
        self.assertEqual((3, (1, 0)), met_by(room=ONE, square=0, place=(1, 1), way=(FAR, 1), posts=((1, 0),)))
        self.assertIsNone(met_by(ONE, 0, (1, 1), (1, 1), [(2, 2), (0, 0)]))
        self.assertIsNone(met_by(ONE, 0, (1, 1), (0, 1), []))

    def test_its_own_place_another_way(self):
        self.assertEqual((2, (1, 1)), met_by(ONE, 0, (1, 1), (1, 0), [(1, 1)]))
        self.assertIsNone(met_by(ONE, 0, (1, 2), (1, 2), [(1, 2)]))

    def test_a_corner_from_another_square(self):
        wide = Room(BENT[0], BENT[1], 2)
        self.assertEqual((1, (2, 2)), met_by(wide, 0, (1, 2), (1, 0), [(2, 2)]))
        self.assertIsNone(met_by(wide, 2, (3, 3), (-1, -1), [(2, 2)]))

    def test_posts(self):
        wrong = ODD + (5, (1, 1), [(9, 9)], [(0, 1), [0, 1]], [(0, 1), None], [(0, 1.0)])
        for value in wrong:
            if value != []:
                self.assert_raises(BadPlace, "posts", lambda: met_by(ONE, 0, (1, 1), (1, 0), value))
        fine = Room(TWO.squares, fine=2)
        self.assert_raises(BadPlace, "posts", lambda: met_by(fine, 0, (3, 1), (1, 0), None))
        posts = [[0, 1], [1, 0]]
        met_by(ONE, 0, (1, 1), (1, 0), posts)
        self.assertEqual([[0, 1], [1, 0]], posts)
        block = Room(BLOCK, fine=5)
        points = points_in(block)
        self.assertEqual((2, (0, 1)), met_by(block, 0, (2, 1), (-1, 0), points[:1] + points[1:2]))
        self.assertEqual((1, (1, 1)), met_by(block, 0, (2, 1), (-1, 0), points[:60]))
        self.assert_raises(BadPlace, "posts", lambda: met_by(block, 0, (2, 1), (1, 0), points[:61]))


if __name__ == "__main__":
    unittest.main()
