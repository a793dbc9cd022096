"""Rays: tracks, posts that are met, bounces, stands, going back, lengths."""

import random
import unittest
from math import gcd

import oracle
from common import (
    BENT, BLOCK, ELL, GATES, NO_INTEGERS, NO_POINTS, ODD, RING, ROW, SLAB, Checks, OwnList, grown_rooms,
)

from neverhit.errors import BadNumber, BadPlace, BadRoom, BadWay, Misfit
from neverhit.papers import Paper
from neverhit.places import places_of, squares_at
from neverhit.rays import Track, bounces_of, length_of, met_first, stand_after, track_of, turned_back
from neverhit.rooms import Room

FAR = 10 ** 12
ONE = Room([(0, 0)], fine=2)
PLAIN_WAYS = [(p, q) for p in range(-3, 4) for q in range(-3, 4) if gcd(p, q) == 1]
NO_WAYS = NO_POINTS + ((0, 0), (2, 4), (0, 2), (-1, 0, 0), (3, -3), (1, FAR + 1), (FAR + 1, 1), (True, 0), (FAR, 2))
CALLS = (
    track_of, lambda *ray: met_first(*ray, []), lambda *ray: bounces_of(*ray, 3), lambda *ray: stand_after(*ray, 0),
    lambda *ray: turned_back(*ray, 0),
)


def rays_of(room, ways):
    """All rays of a room by some ways."""
    return [(room, square, place, way) for place in places_of(room) for square in squares_at(room, place)
            for way in ways]


class Tracks(Checks):

    def test_the_paper(self):
        track = Track([[0, 1], (2, 1)], "round")
        self.assertEqual(("track", ((0, 1), (2, 1)), "round"), (track.word, track.points, track.end))
        self.assertEqual((((0, 1), (2, 1)), "round"), track.parts)
        self.assertTrue(track == Track(end="round", points=((0, 1), [2, 1])))
        self.assertFalse(track == Track(((0, 1), (2, 1)), "corner"))
        self.assertFalse(track == Track(((0, 1),), "round"))
        self.assertIs(True, bool(track))
        self.assertEqual((Paper,), Track.__bases__)
        for value in ODD:
            self.assertEqual(2, len(Track(value, value).parts))

    def test_along_walls_to_the_next_corner(self):
        self.assertEqual((((1, 0), (2, 0)), "corner"), track_of(ONE, 0, (1, 0), (1, 0)).parts)
        self.assertEqual((((0, 1), (0, 0)), "corner"), track_of(ONE, 0, (0, 1), (0, -1)).parts)
        row = Room(ROW)
        self.assertEqual(tuple((x, 1) for x in range(3, 9)), track_of(row, 2, (3, 1), (1, 0)).points)
        self.assertEqual((tuple((x, 0) for x in range(5, -1, -1)), "corner"), track_of(row, 5, (5, 0), (-1, 0)).parts)

    def test_along_lines_of_open_sides(self):
        block = Room(BLOCK)
        self.assertEqual((((1, 0), (1, 1), (1, 2), (1, 1)), "round"), track_of(block, 0, (1, 0), (0, 1)).parts)
        for square in (0, 2):
            self.assertEqual((2, (1, 0), (0, 1)), stand_after(block, square, (1, 0), (0, 1), 0))
            self.assertEqual((3, (1, 1), (0, 1)), stand_after(block, square, (1, 0), (0, 1), 1))
            self.assertEqual((3, (1, 2), (0, -1)), stand_after(block, square, (1, 0), (0, 1), 2))
            self.assertEqual((2, (1, 1), (0, -1)), stand_after(block, square, (1, 0), (0, 1), 3))
        for square in (0, 1):
            self.assertEqual((1, (0, 1), (1, 0)), stand_after(block, square, (0, 1), (1, 0), 0))
            self.assertEqual((3, (1, 1), (1, 0)), stand_after(block, square, (0, 1), (1, 0), 1))
            self.assertEqual((1, (0, 1), (1, 0)), stand_after(block, square, (0, 1), (-1, 0), 0))
        fine = Room(BLOCK, fine=2)
        self.assertEqual((2, (2, 1), (0, 1)), stand_after(fine, 0, (2, 1), (0, 1), 0))
        self.assertEqual((2, (2, 1), (0, -1)), stand_after(fine, 0, (2, 1), (0, -1), 0))
        self.assertEqual((3, (3, 2), (-1, 0)), stand_after(fine, 2, (3, 2), (-1, 0), 0))

    def test_beside_shut_sides(self):
        slit = Room(BLOCK, [((1, 0), (1, 1))], 2)
        for square, way in ((2, (0, -1)), (3, (0, 1))):
            self.assertEqual((square, (3, 2), way), stand_after(slit, square, (3, 2), (0, 1), 0))
            self.assertEqual((square, (3, 2), way), stand_after(slit, square, (3, 2), (0, -1), 0))
            self.assertEqual((((3, 2), (2, 2)), "corner"), track_of(slit, square, (3, 2), (-1, 0)).parts)
            self.assertEqual((square, (3, 2), (1, 0)), stand_after(slit, square, (3, 2), (1, 0), 0))
        self.assertEqual("NSNS", bounces_of(slit, 3, (3, 2), (0, 1), 8))
        self.assertEqual("SNSN", bounces_of(slit, 2, (3, 2), (0, 1), 8))

    def test_corner_from_one_square_and_none_from_another(self):
        bent = Room(*BENT)
        # along the wall below the shut side the ray goes by (1, 1); from the square above it is a corner
        wide = Room(BENT[0], BENT[1], 2)
        self.assertEqual((((1, 2), (2, 2), (3, 2), (4, 2)), "corner"), track_of(wide, 0, (1, 2), (1, 0)).parts)
        self.assertEqual((((3, 3), (2, 2)), "corner"), track_of(wide, 2, (3, 3), (-1, -1)).parts)
        self.assertEqual((1, (2, 2), (1, -1)), stand_after(wide, 0, (1, 1), (1, 1), 1))
        self.assertEqual("N", bounces_of(wide, 0, (1, 1), (1, 1), 1))
        self.assertNotIn((1, 1), places_of(bent))

    def test_both_faces_of_shut_sides_in_a_line(self):
        gates = Room(*GATES)
        self.assertEqual((0, (1, 1), (-1, -1)), stand_after(gates, 2, (1, 1), (-1, 1), 0))
        self.assertEqual((3, (1, 1), (1, 1)), stand_after(gates, 1, (1, 1), (1, -1), 0))
        self.assertEqual((2, (1, 1), (0, -1)), stand_after(gates, 0, (1, 1), (0, 1), 0))
        self.assertEqual((3, (1, 1), (0, 1)), stand_after(gates, 1, (1, 1), (0, 1), 0))

    def test_ways_that_lead_out_or_into_a_wall_at_the_beginning(self):
        two = Room([(0, 0), (1, 0)], fine=2)
        self.assertEqual((1, (2, 1), (1, 0)), stand_after(two, 0, (2, 1), (1, 0), 0))
        self.assertEqual((0, (2, 1), (-1, 1)), stand_after(two, 1, (2, 1), (-1, 1), 0))
        self.assertEqual((0, (0, 1), (1, 0)), stand_after(two, 0, (0, 1), (-1, 0), 0))
        self.assertEqual((1, (2, 2), (1, -1)), stand_after(two, 0, (2, 2), (1, 1), 0))
        self.assertEqual((0, (2, 0), (-1, 1)), stand_after(two, 1, (2, 0), (-1, -1), 0))
        free = Room(BLOCK)
        for square in range(4):
            for way, number in (((1, 1), 3), ((-1, 1), 1), ((1, -1), 2), ((-1, -1), 0)):
                self.assertEqual((number, (1, 1), way), stand_after(free, square, (1, 1), way, 0))

    def test_an_end_at_once(self):
        self.assertEqual((((1, 1), (2, 2)), "corner"), track_of(ONE, 0, (1, 1), (1, 1)).parts)
        self.assertEqual((((1, 1), (0, 0)), "corner"), track_of(ONE, 0, (1, 1), (-5, 7)).parts)

    def test_against_the_words_of_the_document(self):
        chance = random.Random(11)
        ends = {}
        for room in grown_rooms(12, 120, (1, 2, 3)) + [Room(*GATES), Room(*BENT), Room(RING, (), 2)]:
            rays = rays_of(room, [(p, q) for p in range(-7, 8) for q in range(-7, 8) if gcd(p, q) == 1])
            for ray in chance.sample(rays, min(2, len(rays))) + chance.sample(rays_of(room, PLAIN_WAYS), min(2, len(rays))):
                track = track_of(*ray)
                self.assertEqual(oracle.track(*ray), track.parts, (str(room),) + ray[1:])
                ends[track.end] = ends.get(track.end, 0) + 1
        self.assertGreater(min(ends["corner"], ends["round"]), 50)

    def test_facts(self):
        for room in grown_rooms(13, 40, (1, 2)):
            for ray in rays_of(room, [(1, 2), (-3, 1), (0, 1), (-1, 0)]):
                track = track_of(*ray)
                self.assertLessEqual(len(track.points), 4 * room.many * room.fine ** 2)
                self.assertEqual(ray[2], track.points[0])
                for point in track.points[:-1] if track.end == "corner" else track.points:
                    # what a ray passes is a corner at most from another square
                    self.assertTrue(point in places_of(room) or len(squares_at(room, point)) > 1)


class Meeting(Checks):

    def test_the_first_one_that_is_met(self):
        ray = (ONE, 0, (1, 0), (1, 1))
        self.assertEqual((1, (2, 1)), met_first(*ray, [(0, 1), (1, 2), (2, 1)]))
        self.assertEqual((2, (1, 2)), met_first(*ray, [[1, 2], [0, 1]]))
        self.assertEqual((3, (0, 1)), met_first(*ray, ((0, 1), (1, 1))))
        for posts in ([], (), [(1, 1)], [(1, 0)], [(0, 0), (2, 2)]):
            self.assertIsNone(met_first(*ray, posts))
        self.assertEqual((1, (2, 1)), met_first(room=ONE, square=0, place=[1, 0], way=[1, 1], posts=[[2, 1]]))

    def test_its_own_place_in_another_stand(self):
        self.assertEqual((2, (1, 1)), met_first(ONE, 0, (1, 1), (1, 0), [(1, 1)]))
        self.assertEqual((1, (2, 1)), met_first(ONE, 0, (1, 1), (1, 0), [(1, 1), (2, 1)]))
        self.assertIsNone(met_first(ONE, 0, (1, 2), (0, 1), [(1, 2)]))
        self.assertEqual((1, (1, 1)), met_first(ONE, 0, (1, 2), (0, 1), [(1, 1)]))

    def test_no_corner_at_which_it_ends(self):
        self.assertIsNone(met_first(ONE, 0, (1, 1), (1, 1), [(2, 2)]))
        ell = Room(ELL)
        self.assertIsNone(met_first(ell, 0, (1, 0), (-1, 1), [(1, 2)]))
        self.assertEqual((1, (0, 1)), met_first(ell, 0, (1, 0), (-1, 1), [(0, 1), (1, 2)]))

    def test_a_corner_of_other_squares_is_met(self):
        wide = Room(BENT[0], BENT[1], 2)
        self.assertEqual((1, (2, 2)), met_first(wide, 0, (1, 1), (1, 1), [(2, 2)]))

    def test_those_of_many_tracks(self):
        chance = random.Random(14)
        for room in grown_rooms(15, 40, (2, 3)):
            for ray in chance.sample(rays_of(room, PLAIN_WAYS), 4):
                points, end = oracle.track(*ray)
                posts = chance.sample(places_of(room), min(3, len(places_of(room)))) + [points[-1]]
                posts = list(dict.fromkeys(posts))
                ahead = points[:-1] if end == "corner" else points
                met = [(step, point) for step, point in enumerate(ahead) if step and point in posts]
                self.assertEqual(met[0] if met else None, met_first(*ray, posts))

    def test_sixty_posts(self):
        wide = Room(ROW, (), 4)
        posts = [(x, y) for x in range(20) for y in range(3)]
        self.assertEqual((1, (2, 2)), met_first(wide, 0, (1, 1), (1, 1), posts))
        self.assertEqual((1, (3, 2)), met_first(wide, 0, (4, 3), (-1, -1), posts[::-1]))
        self.assert_raises(BadPlace, "posts", lambda: met_first(wide, 0, (1, 1), (1, 1), posts + [(21, 0)]))

    def test_wrong_posts(self):
        wrong = ODD + (5, (1, 1), [(1, 1), (1, 1)], [(1, 1), [1, 1]], [(3, 3)], [(1, 1), None], [(1, 1, 1)], [(0, True)],
                       [(10 ** 50, 0)], {(1, 1): 1})
        self.assert_bad(BadPlace, "posts", wrong, lambda posts: met_first(ONE, 0, (1, 1), (1, 0), posts))
        for value in NO_POINTS:
            self.assert_raises(BadPlace, "posts", lambda: met_first(ONE, 0, (1, 1), (1, 0), [(0, 1), value]))
        two = Room([(0, 0), (1, 0)], fine=2)
        self.assert_raises(BadPlace, "posts", lambda: met_first(two, 0, (3, 1), (1, 0), [None]))
        self.assert_raises(BadWay, "way", lambda: met_first(two, 0, (3, 1), (2, 0), [None]))
        self.assert_raises(Misfit, "place", lambda: met_first(two, 0, (3, 1), (1, 0), [(1, 1)]))


class Steps(Checks):

    def test_bounces(self):
        self.assertEqual("ENWSENWSE", bounces_of(ONE, 0, (1, 0), (1, 1), 9))
        self.assertEqual(["", "E", "EN", "ENW"], [bounces_of(ONE, 0, (1, 0), (1, 1), steps) for steps in range(4)])
        self.assertEqual(["", "", "S", "S", "SN"], [bounces_of(ONE, 0, (1, 2), (0, 1), steps) for steps in range(5)])
        self.assertEqual("EW", bounces_of(ONE, 0, (1, 0), (5, 2), 1))
        self.assertEqual("EW", bounces_of(ONE, 0, (1, 0), (5, 2), 20000))
        self.assertEqual("", bounces_of(ONE, 0, (1, 0), (1, 0), 5))
        self.assertEqual("ENWS" * 5000, bounces_of(room=ONE, square=0, place=[1, 0], way=[1, 1], steps=20000))

    def test_stands_bounces_and_going_back_against_the_words_of_the_document(self):
        chance = random.Random(16)
        for room in grown_rooms(17, 80, (1, 2, 3)) + [Room(*GATES), Room(BENT[0], BENT[1], 2)]:
            rays = rays_of(room, PLAIN_WAYS + [(5, -4), (-7, 2), (1, 6), (-6, -5)])
            for told in chance.sample(rays, min(4, len(rays))):
                ray = oracle.Ray(*told)
                for steps in range(12):
                    self.assertEqual(ray.met, bounces_of(*told, steps))
                    if ray.ended:
                        for call in (stand_after, turned_back):
                            self.assert_raises(Misfit, "steps", lambda: call(*told, steps))
                    else:
                        self.assertEqual(ray.stand(), stand_after(*told, steps))
                        self.assertEqual(ray.back(), turned_back(*told, steps))
                        ray.step()

    def test_there_and_back(self):
        chance = random.Random(18)
        for room in grown_rooms(19, 50, (2, 3)):
            for told in chance.sample(rays_of(room, PLAIN_WAYS), 3):
                track = track_of(*told)
                most = len(track.points) - 1 if track.end == "corner" else 30
                steps = chance.randrange(most)
                back = turned_back(*told, steps)
                if back[1] in places_of(room):
                    self.assertEqual(turned_back(*told, 0), stand_after(room, *back, steps))
                    self.assertEqual(stand_after(*told, 0), turned_back(room, *back, steps))

    def test_coming_round(self):
        ray = (ONE, 0, (1, 0), (1, 1))
        self.assertEqual(stand_after(*ray, 0), stand_after(*ray, 4))
        self.assertEqual(stand_after(*ray, 3), stand_after(*ray, 19999))
        self.assertEqual((0, (1, 0), (1, 1)), stand_after(*ray, 20000))
        self.assertEqual((0, (1, 0), (-1, 1)), turned_back(*ray, 20000))

    def test_by_name(self):
        self.assertEqual((0, (2, 1), (-1, 1)), stand_after(steps=1, way=[1, 1], place=[1, 0], square=0, room=ONE))
        self.assertEqual((0, (2, 1), (-1, -1)), turned_back(steps=1, way=[1, 1], place=[1, 0], square=0, room=ONE))
        self.assertEqual("E", bounces_of(steps=1, way=[1, 1], place=[1, 0], square=0, room=ONE))
        self.assertEqual("round", track_of(way=[1, 1], place=[1, 0], square=0, room=ONE).end)
        told = turned_back(ONE, 0, [1, 0], [1, 1], 1)
        self.assertEqual([tuple] * 3, [value.__class__ for value in (told, told[1], told[2])])

    def test_ways_far_out_without_a_step(self):
        for way, stand in (((FAR, 1), (FAR, 1)), ((-FAR, 1), (FAR, 1)), ((-1, -FAR), (1, -FAR)), ((FAR, FAR - 1),) * 2):
            self.assertEqual((0, (0, 1), stand), stand_after(ONE, 0, (0, 1), way, 0))
            self.assertEqual("", bounces_of(ONE, 0, (0, 1), way, 0))
            back = turned_back(ONE, 0, (0, 1), way, 0)
            self.assertEqual((0, (0, 1), (stand[0], -stand[1])), back)

    def test_wrong_steps(self):
        wrong = NO_INTEGERS + (-1, 20001, 10 ** 50)
        for call in (bounces_of, stand_after, turned_back):
            self.assert_bad(BadNumber, "steps", wrong, lambda steps: call(ONE, 0, (1, 0), (1, 1), steps))
            two = Room([(0, 0), (1, 0)], fine=2)
            self.assert_raises(BadNumber, "steps", lambda: call(two, 0, (3, 1), (1, 0), 20001))
            self.assert_raises(BadWay, "way", lambda: call(two, 0, (3, 1), (0, 0), 20001))
            self.assert_raises(Misfit, "place", lambda: call(two, 0, (3, 1), (1, 0), 20000))

    def test_an_end_by_then(self):
        ell = Room(ELL)
        for call in (stand_after, turned_back):
            self.assertEqual((0, 1), call(ell, 0, (1, 0), (-1, 1), 1)[1])
            for steps in (2, 3, 20000):
                self.assert_raises(Misfit, "steps", lambda: call(ell, 0, (1, 0), (-1, 1), steps))


class Lengths(Checks):

    def test_length(self):
        self.assertEqual([100, 0, 1, 25], [length_of((3, -4), 2), length_of([1, 0], 0), length_of((0, -1), 1),
                                           length_of(way=(-4, 3), steps=1)])
        self.assertEqual((FAR * FAR + 1) * 20000 ** 2, length_of((-FAR, 1), 20000))

    def test_errors(self):
        self.assert_bad(BadWay, "way", NO_WAYS, lambda way: length_of(way, None))
        self.assert_bad(BadNumber, "steps", NO_INTEGERS + (-1, 20001), lambda steps: length_of((1, 0), steps))


class Wrong(Checks):

    def test_each_part_in_its_order(self):
        room = Room(BLOCK, [((1, 0), (1, 1))], 2)
        for call in CALLS:
            self.assert_bad(BadRoom, "room", ODD + (5,), lambda value: call(value, None, None, None))
            squares = NO_INTEGERS + (-1, 4, 10 ** 50)
            self.assert_bad(BadNumber, "square", squares, lambda value: call(room, value, None, None))
            places = NO_POINTS + ((0, 0), (2, 2), (4, 2), (5, 5), (1, True))
            self.assert_bad(BadPlace, "place", places, lambda value: call(room, 0, value, None))
            self.assert_bad(BadWay, "way", NO_WAYS, lambda value: call(room, 0, (3, 1), value))
            self.assert_raises(Misfit, "place", lambda: call(room, 0, (3, 1), (1, 0)))
            self.assert_raises(Misfit, "place", lambda: call(room, 3, [3, 1], (FAR, 1)))

    def test_what_is_passed_stays(self):
        room, place, way, posts = Room(ELL, (), 2), [1, 1], [1, 0], [[2, 1], [3, 1]]
        text = str(room)
        track = track_of(room, 0, place, way)
        self.assertEqual((1, (2, 1)), met_first(room, 0, place, way, posts))
        stand_after(room, 0, place, way, 2)
        turned_back(room, 0, OwnList(place), OwnList(way), 2)
        bounces_of(room, 0, place, way, 2)
        self.assertEqual((text, [1, 1], [1, 0], [[2, 1], [3, 1]]), (str(room), place, way, posts))
        place[0] = 7
        self.assertEqual((1, 1), track.points[0])


if __name__ == "__main__":
    unittest.main()
