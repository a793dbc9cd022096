"""Fans, corners, points, places."""

import unittest

import oracle
from common import BENT, BLOCK, ELL, GATES, NO_INTEGERS, NO_POINTS, ODD, RING, ROW, SLAB, Checks, grown_rooms

from neverhit.errors import BadNumber, BadPoint, BadRoom
from neverhit.places import fan_of, is_corner, is_place, places_of, points_in, squares_at
from neverhit.rooms import Room

GRID = ((0, 0), (1, 0), (0, 1), (1, 1))


def all_tips(room):
    """Each square of a room with each tip, and the point of the grid that it is."""
    for number, (i, j) in enumerate(room.squares):
        for tip, (a, b) in enumerate(GRID):
            yield number, tip, (i + a, j + b)


class Fans(Checks):

    def test_one_square_has_four_corners(self):
        room = Room([(-4, 7)], fine=3)
        for tip in range(4):
            self.assertEqual((0,), fan_of(room, 0, tip))
            self.assertIs(True, is_corner(room, 0, tip))

    def test_straight_free_and_corners_of_three_and_four(self):
        block = Room(BLOCK)
        self.assertEqual([(0,), (0, 2), (0, 1), (0, 1, 2, 3)], [fan_of(block, 0, tip) for tip in range(4)])
        self.assertEqual([True, False, False, False], [is_corner(block, 0, tip) for tip in range(4)])
        half = Room(BLOCK, [((0, 0), (0, 1))])
        self.assertEqual((0, 1, 2, 3), fan_of(half, 1, 1))
        self.assertEqual([True] * 4, [is_corner(half, number, tip) for number, tip in ((0, 3), (1, 1), (2, 2), (3, 0))])
        self.assertEqual([True, True, False], [is_corner(half, 0, 2), is_corner(half, 1, 0), is_corner(half, 2, 3)])
        ell = Room(ELL)
        self.assertEqual((0, 1, 2), fan_of(ell, 2, 2))
        self.assertIs(True, is_corner(ell, 2, 2))

    def test_both_faces_of_shut_sides_in_a_line(self):
        gates = Room(*GATES)
        for number, tip, fan in ((0, 3, (0, 2)), (2, 2, (0, 2)), (1, 1, (1, 3)), (3, 0, (1, 3))):
            self.assertEqual(fan, fan_of(gates, number, tip))
            self.assertIs(False, is_corner(gates, number, tip))
        self.assertIs(True, is_place(gates, (1, 1)))
        self.assertIs(False, is_place(gates, (2, 1)))
        self.assertEqual((2, 3, 4, 5), fan_of(gates, 2, 3))

    def test_corner_from_one_square_and_none_from_another(self):
        bent = Room(*BENT)
        self.assertEqual([(0, 1), (0, 1), (2,)], [fan_of(bent, 0, 3), fan_of(bent, 1, 2), fan_of(bent, 2, 0)])
        self.assertEqual([False, False, True], [is_corner(bent, 0, 3), is_corner(bent, 1, 2), is_corner(bent, 2, 0)])
        self.assertIs(False, is_place(bent, (1, 1)))

    def test_fans_of_many_rooms(self):
        kinds = {}
        for room in grown_rooms(5, 150):
            for number, tip, grid in all_tips(room):
                square = room.squares[number]
                wanted = tuple(room.squares.index(other) for other in oracle.fan(room, square, grid))
                self.assertEqual(wanted, fan_of(room, number, tip))
                kind = oracle.kind(room, square, grid)
                self.assertIs(kind == "corner", is_corner(room, number, tip))
                kinds[kind, len(wanted)] = True
        self.assertEqual(
            [("corner", 1), ("corner", 3), ("corner", 4), ("free", 4), ("straight", 2)], sorted(kinds))

    def test_facts(self):
        for room in grown_rooms(6, 60):
            if not room.shut:
                for number, tip, grid in all_tips(room):
                    for other in fan_of(room, number, tip):
                        i, j = room.squares[other]
                        turn = GRID.index((grid[0] - i, grid[1] - j))
                        self.assertEqual(fan_of(room, number, tip), fan_of(room, other, turn))


class Points(Checks):

    def test_points_and_places(self):
        room = Room([(-1, 2)], fine=2)
        self.assertEqual(tuple((x, y) for x in (-2, -1, 0) for y in (4, 5, 6)), points_in(room))
        self.assertEqual(((-2, 5), (-1, 4), (-1, 5), (-1, 6), (0, 5)), places_of(room))
        self.assertEqual((), places_of(Room([(5, 5)])))
        self.assertEqual(4, len(points_in(Room([(99, -99)]))))

    def test_those_of_many_rooms(self):
        for room in grown_rooms(7, 60) + [Room(RING, (), 2), Room(ROW, (), 3), Room(SLAB), Room(*GATES), Room(*BENT)]:
            box = [(x, y) for x in range(-12 * room.fine, 13 * room.fine) for y in range(-12 * room.fine, 13 * room.fine)]
            points = tuple(point for point in box if oracle.owners(room, point))
            places = tuple(point for point in points if oracle.is_place(room, point))
            self.assertEqual(points, points_in(room))
            self.assertEqual(places, places_of(room))
            for point in points:
                wanted = tuple(room.squares.index(square) for square in oracle.owners(room, point))
                self.assertEqual(wanted, squares_at(room, point))
                self.assertIs(point in places, is_place(room, point))

    def test_the_largest(self):
        room = Room(ROW, fine=24)
        self.assertEqual((8 * 24 + 1) * 25, len(points_in(room)))
        self.assertEqual((8 * 24 + 1) * 25 - 4, len(places_of(room)))

    def test_shut_sides(self):
        slit = Room(BLOCK, [((1, 0), (1, 1))], 2)
        # within the shut side, at its two ends, and within the open side in its line
        self.assertEqual(
            [True, False, False, True], [is_place(slit, point) for point in ((3, 2), (2, 2), (4, 2), (1, 2))])
        self.assertEqual((2, 3), squares_at(slit, (3, 2)))
        # beside the end of a shut side, in the midst of the wall across, no square has a corner
        self.assertIs(True, is_place(slit, (2, 0)))
        self.assertIs(True, is_place(Room(slit.squares, slit.shut), (1, 0)))

    def test_squares_at(self):
        block = Room(BLOCK, fine=2)
        self.assertEqual([(0, 1, 2, 3), (0,), (0, 2), (0, 1), (0,), (), ()], [squares_at(block, point) for point in (
            (2, 2), (1, 1), (2, 1), [1, 2], (0, 0), (5, 0), (-10 ** 50, 10 ** 50))])
        self.assertEqual((0, 2), squares_at(point=(2, 0), room=block))

    def test_any_value_may_be_asked(self):
        room = Room([(0, 0), (1, 0)], fine=2)
        for value in NO_POINTS + ((0, 0), (4, 2), (9, 9), (1, True), (1.0, 1), "11", (10 ** 200, 1)):
            self.assertIs(False, is_place(room, value))
        for value in ((2, 1), [2, 1], (2, 0), [1, 1]):
            self.assertIs(True, is_place(room=room, value=value))

    def test_facts(self):
        for room in grown_rooms(8, 60, (2, 3)):
            for x, y in points_in(room):
                if x % room.fine or y % room.fine:
                    self.assertIs(True, is_place(room, (x, y)))


class Wrong(Checks):

    def test_rooms(self):
        for call in (
            lambda room: fan_of(room, None, None), lambda room: is_corner(room, 9, 9), points_in, places_of,
            lambda room: is_place(room, None), lambda room: squares_at(room, None),
        ):
            self.assert_bad(BadRoom, "room", ODD + (5, BLOCK, "fine 1 / 0 0"), call)

    def test_squares_and_tips(self):
        room = Room(ELL)
        for call in (fan_of, is_corner):
            values = NO_INTEGERS + (-1, 3, 10 ** 50)
            self.assert_bad(BadNumber, "square", values, lambda value: call(room, value, 9))
            self.assert_bad(BadNumber, "tip", NO_INTEGERS + (-1, 4, 10 ** 50), lambda value: call(room, 0, value))
        self.assertEqual((0, 2), fan_of(tip=1, square=0, room=room))
        self.assertIs(False, is_corner(tip=1, square=0, room=room))

    def test_points(self):
        self.assert_bad(BadPoint, "point", NO_POINTS, lambda value: squares_at(Room(ELL), value))


if __name__ == "__main__":
    unittest.main()
