"""Pictures: plans, points with lamp, wish and posts, tracks."""

import random
import unittest

import oracle
from common import BENT, BLOCK, ELL, GATES, NO_INTEGERS, NO_POINTS, ODD, RING, ROW, SLAB, Checks, grown_rooms

from neverhit.changed import finer, moved
from neverhit.errors import BadNumber, BadPlace, BadRoom, BadWay, Misfit
from neverhit.pictures import picture_of, picture_of_track, plan_of
from neverhit.places import places_of, points_in, squares_at
from neverhit.rays import track_of
from neverhit.rooms import Room

CORNER = Room(ELL)
SLIT = Room(BLOCK, [((1, 0), (1, 1))], 2)
ONE = Room([(0, 0)], fine=2)
ROOMS = [Room(*BENT), Room(*GATES), Room(*GATES, 3), Room(RING), Room(ROW), Room(SLAB, fine=2), CORNER, SLIT, ONE]


def has_corner(room, grid):
    """Whether some square of the room has a corner at a point of the grid."""
    return any(oracle.kind(room, square, grid) == "corner" for square in oracle.around(grid) if square in room.squares)


def on_wall(room, point):
    """Whether a point lies on a wall, ends included."""
    x, y = point
    f = room.fine
    for i, j in room.squares:
        for beyond, there in (((i - 1, j), x == i * f), ((i + 1, j), x == i * f + f)):
            if there and j * f <= y <= j * f + f and not oracle.is_open(room, (i, j), beyond):
                return True
        for beyond, there in (((i, j - 1), y == j * f), ((i, j + 1), y == j * f + f)):
            if there and i * f <= x <= i * f + f and not oracle.is_open(room, (i, j), beyond):
                return True
    return False


def box(room):
    """The least and the greatest numbers of the room's squares."""
    columns, rows = [i for i, _ in room.squares], [j for _, j in room.squares]
    return min(columns), max(columns), min(rows), max(rows)


def plan(room):
    """The plan of a room, sign by sign."""
    west, east, south, north = box(room)
    rows = []
    for y in range(2 * north + 2, 2 * south - 1, -1):
        row = ""
        for x in range(2 * west, 2 * east + 3):
            i, j = x // 2, y // 2
            if x % 2 and y % 2:
                row += "." if (i, j) in room.squares else " "
            elif x % 2 or y % 2:
                sides = [(i, j), (i, j - 1)] if x % 2 else [(i, j), (i - 1, j)]
                is_side = any(square in room.squares for square in sides)
                row += ("-" if x % 2 else "|") if is_side and not oracle.is_open(room, *sides) else " "
            elif any(square in room.squares for square in oracle.around((i, j))):
                row += "+" if has_corner(room, (i, j)) else "o"
            else:
                row += " "
        rows.append(row)
    return tuple(rows)


def points(room, signs):
    """The point picture of a room, sign by sign, some signs standing in it."""
    west, east, south, north = [number * room.fine for number in box(room)]
    rows = []
    for y in range(north + room.fine, south - 1, -1):
        row = ""
        for x in range(west, east + room.fine + 1):
            grid = oracle.grid_point(room, (x, y))
            if (x, y) in signs:
                row += signs[(x, y)]
            elif not oracle.owners(room, (x, y)):
                row += " "
            elif grid is not None and has_corner(room, grid):
                row += "+"
            else:
                row += "#" if on_wall(room, (x, y)) else "."
        rows.append(row)
    return tuple(rows)


class Plans(Checks):

    def test_by_hand(self):
        self.assertEqual(("+-+", "|.|", "+-+"), plan_of(Room([(7, -3)], fine=24)))
        self.assertEqual(("+-+  ", "|.|  ", "o +-+", "|. .|", "+-o-+"), plan_of(room=CORNER))
        self.assertEqual(("+-o-+", "|. .|", "+-+ o", "|. .|", "+-o-+"), plan_of(Room(BLOCK, [((0, 0), (0, 1))])))
        # above the shut side there is a corner at (1, 1), below it none
        self.assertEqual(("  +-o-+", "  |. .|", "+-+-+ o", "|. . .|", "+-o-o-+"), plan_of(Room(*BENT)))
        # no point, no square and no side in the hole of the ring
        self.assertEqual(("+-o-o-+", "|. . .|", "o +-+ o", "|.| |.|", "o +-+ o", "|. . .|", "+-o-o-+"), plan_of(Room(RING)))
        # between two shut sides in a line the walls go straight on
        self.assertEqual(("+-o-o-+", "|. . .|", "+-o-+ o", "|. . .|", "+-o-o-+"), plan_of(Room(*GATES)))

    def test_by_the_words(self):
        for room in grown_rooms(150, 120) + ROOMS:
            self.assertEqual(plan(room), plan_of(room))

    def test_where_it_lies_and_how_fine_it_is_does_not_matter(self):
        for room in ROOMS:
            self.assertEqual(plan_of(room), plan_of(moved(room, (-40, 17))))
            self.assertEqual(plan_of(room), plan_of(finer(room, 4)))

    def test_errors(self):
        self.assert_bad(BadRoom, "room", ODD + (5, ELL), plan_of)


class Points(Checks):

    def test_by_hand(self):
        self.assertEqual(("+###P", "#...#", "#.PW+", "#L..#", "+###+"), picture_of(SLIT, (1, 1), (3, 2), [(2, 2), (4, 4)]))
        self.assertEqual(("+#+  ", "#.#  ", "#.+#+", "#...#", "+#L#+"), picture_of(finer(CORNER, 2), (2, 0), None))
        self.assertEqual(("+#+", "#W#", "+#+"), picture_of(room=ONE, wish=[1, 1], lamp=None))
        self.assertEqual(("+#+", "#.#", "+#+"), picture_of(ONE, None, None))
        self.assertEqual(("++", "++"), picture_of(Room([(5, 5)]), None, None, ()))
        self.assertEqual(("PP", "PP"), picture_of(Room([(5, 5)]), None, None, [(5, 5), [5, 6], (6, 5), (6, 6)]))

    def test_shut_sides(self):
        self.assertEqual(("+#####+", "#.....#", "#.....#", "+##+..#", "#.....#", "#.....#", "+#####+"),
                         picture_of(Room(BLOCK, [((0, 0), (0, 1))], 3), None, None))
        # between the gates the walls go straight on, at their ends there are corners
        self.assertEqual(("+#####+", "#.....#", "+###+.#", "#.....#", "+#####+"), picture_of(Room(*GATES, 2), None, None))

    def test_by_the_words(self):
        chance = random.Random(151)
        for room in grown_rooms(152, 120) + ROOMS:
            self.assertEqual(points(room, {}), picture_of(room, None, None))
            places = list(places_of(room))
            if len(places) < 2:
                continue
            lamp, wish = chance.sample(places, 2)
            others = [point for point in points_in(room) if point not in (lamp, wish)]
            posts = chance.sample(others, min(5, len(others)))
            signs = {lamp: "L", wish: "W", **{post: "P" for post in posts}}
            self.assertEqual(points(room, signs), picture_of(room, lamp, wish, posts))
            del signs[wish]
            self.assertEqual(points(room, signs), picture_of(room, list(lamp), None, [list(post) for post in posts]))

    def test_rows_equally_long(self):
        for room in ROOMS:
            west, east, south, north = box(room)
            told = picture_of(room, None, None)
            self.assertIs(tuple, told.__class__)
            self.assertEqual({(east - west + 1) * room.fine + 1}, {len(row) for row in told})
            self.assertEqual((north - south + 1) * room.fine + 1, len(told))

    def test_errors(self):
        self.assert_bad(BadRoom, "room", ODD + (5,), lambda value: picture_of(value, 5, 5, 5))
        self.assert_bad(BadRoom, "room", ODD + (5,), lambda value: picture_of(value, None, None, 5))
        bad = [value for value in NO_POINTS if value is not None] + [(0, 0), (9, 9), (2, 2)]
        self.assert_bad(BadPlace, "lamp", bad, lambda value: picture_of(ONE, value, 5, 5))
        for lamp in (None, (1, 1)):
            self.assert_bad(BadPlace, "wish", bad, lambda value: picture_of(ONE, lamp, value, 5))
            for value in ODD + (5, (1, 1), [(9, 9)], [(1, 1), [1, 1]], [(1, 1), None]):
                if value != []:
                    self.assert_raises(BadPlace, "posts", lambda: picture_of(ONE, lamp, lamp, value))
        self.assert_raises(Misfit, "wish", lambda: picture_of(ONE, (1, 1), [1, 1], [(1, 1)]))
        self.assert_raises(Misfit, "posts", lambda: picture_of(ONE, (1, 1), None, [(0, 0), [1, 1]]))
        self.assert_raises(Misfit, "posts", lambda: picture_of(ONE, None, (1, 1), [(1, 1)]))
        self.assert_raises(Misfit, "posts", lambda: picture_of(ONE, (1, 2), (1, 1), [(1, 2)]))
        slab = Room(SLAB, fine=4)
        self.assertEqual(60, "".join(picture_of(slab, None, None, points_in(slab)[:60])).count("P"))
        self.assert_raises(BadPlace, "posts", lambda: picture_of(slab, None, None, points_in(slab)[:61]))

    def test_what_is_passed_stays(self):
        posts = [[2, 2], [0, 0]]
        picture_of(SLIT, [1, 1], [3, 2], posts)
        self.assertEqual([[2, 2], [0, 0]], posts)


class Tracks(Checks):

    def test_by_hand(self):
        self.assertEqual(("+#+  ", "#**  ", "#.+#+", "*o..#", "+###+"), picture_of_track(finer(CORNER, 2), 0, (1, 1), (1, 2)))
        self.assertEqual(("+#*#+", "#*.*#", "*...*", "#*.*#", "+#o#+"),
                         picture_of_track(way=(1, 1), place=[2, 0], square=0, room=Room([(0, 0)], fine=4)))
        # to a corner, at once and behind a wall
        self.assertEqual(("+#x", "#o#", "+#+"), picture_of_track(ONE, 0, (1, 1), [1, 1]))
        self.assertEqual(("+x ", "*++", "+o+"), picture_of_track(CORNER, 0, (1, 0), (-1, 1)))
        # there and back: its place comes again
        self.assertEqual(("+*+", "#o#", "+*+"), picture_of_track(ONE, 0, (1, 1), (0, 1)))

    def test_a_corner_that_was_passed_from_another_square(self):
        # (2, 2) is a corner from the square above the shut side alone: below it the ray was thrown back there
        room = Room(*BENT, 2)
        track = track_of(room, 0, (1, 1), (1, 1))
        self.assertEqual(((2, 2), (2, 2), "corner"), (track.points[1], track.points[-1], track.end))
        self.assertEqual(("  +#*#+", "  #*.*#", "+#x#+.*", "#o.*.*#", "+###*#+"), picture_of_track(room, 0, (1, 1), (1, 1)))

    def test_by_the_words(self):
        chance = random.Random(153)
        ends = {}
        for room in grown_rooms(154, 150) + ROOMS * 3:
            places = places_of(room)
            if not places:
                continue
            place = chance.choice(places)
            square = chance.choice(squares_at(room, place))
            way = chance.choice(((1, 0), (0, -1), (1, 1), (-1, 2), (3, -1), (-2, -3), (5, 4)))
            track, end = oracle.track(room, square, place, way)
            signs = {point: "*" for point in track}
            if end == "corner":
                signs[track[-1]] = "x"
            signs[place] = "o"
            self.assertEqual(points(room, signs), picture_of_track(room, square, place, way))
            ends[end] = ends.get(end, 0) + 1
        self.assertGreater(min(ends.values()), 10)

    def test_errors(self):
        self.assert_bad(BadRoom, "room", ODD + (5,), lambda value: picture_of_track(value, None, None, None))
        self.assert_bad(BadNumber, "square", NO_INTEGERS + (-1, 3), lambda value: picture_of_track(CORNER, value, None, None))
        self.assert_bad(BadPlace, "place", NO_POINTS + ((0, 0), (9, 9)),
                        lambda value: picture_of_track(CORNER, 0, value, None))
        self.assert_bad(BadWay, "way", NO_POINTS + ((0, 0), (2, 2)),
                        lambda value: picture_of_track(CORNER, 1, (1, 0), value))
        self.assert_raises(Misfit, "place", lambda: picture_of_track(CORNER, 1, (1, 0), (0, 1)))


if __name__ == "__main__":
    unittest.main()
