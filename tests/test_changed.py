"""Rooms moved, turned, mirrored, made finer, their sides shut and opened; and their points."""

import unittest

from common import BENT, BLOCK, ELL, NO_INTEGERS, NO_POINTS, ODD, RING, SLAB, Checks, grown_rooms, hang_together

from neverhit.changed import (
    finer, finer_point, mirrored, mirrored_point, moved, moved_point, opened, shut_up, turned, turned_point,
)
from neverhit.errors import BadNumber, BadPoint, BadRoom, Misfit
from neverhit.places import is_place, places_of, points_in, squares_at
from neverhit.rooms import Room, open_sides

SIDE = ((0, 0), (0, 1))
SLIT = Room(BLOCK, [((1, 0), (1, 1))], 2)


class Moving(Checks):

    def test_moved(self):
        room = moved(SLIT, [-3, 5])
        self.assertEqual("fine 2 / -3 5 / -3 6 / -2 5 / -2 6 / shut -2 5 -2 6", str(room))
        self.assertTrue(moved(SLIT, (0, 0)) == SLIT)
        self.assertTrue(moved(room=SLIT, by=(-3, 5)) == room)
        self.assertEqual(((99, -99),), moved(Room([(-99, 99)]), (198, -198)).squares)

    def test_too_far(self):
        for by in ((99, 0), (-100, 0), (0, 99), (0, -100), (10 ** 50, 0), (0, -10 ** 50)):
            self.assert_raises(Misfit, "by", lambda: moved(SLIT, by))
            self.assert_raises(Misfit, "by", lambda: moved_point(SLIT, by, (0, 0)))
        self.assertEqual(((98, -99), (98, -98), (99, -99), (99, -98)), moved(SLIT, (98, -99)).squares)

    def test_moved_point(self):
        self.assertEqual((-4, 11), moved_point(SLIT, (-3, 5), [2, 1]))
        self.assertEqual((-4, 11), moved_point(point=(2, 1), by=[-3, 5], room=SLIT))

    def test_errors(self):
        for call in (lambda room, by: moved(room, by), lambda room, by: moved_point(room, by, None)):
            self.assert_bad(BadRoom, "room", ODD + (5,), lambda room: call(room, None))
            self.assert_bad(BadPoint, "by", NO_POINTS, lambda by: call(SLIT, by))
        for point in NO_POINTS + ((5, 5), (-1, 0), (10 ** 50, 0)):
            self.assert_raises(BadPoint, "point", lambda: moved_point(SLIT, (500, 0), point))


class Turning(Checks):

    def test_turned(self):
        self.assertEqual("fine 2 / -2 0 / -2 1 / -1 0 / -1 1 / shut -2 1 -1 1", str(turned(SLIT, 1)))
        self.assertEqual(((-1, -1), (-1, -2), (-2, -1)), turned(Room(ELL), 2).squares[::-1])
        self.assertEqual(((0, -2), (0, -1), (1, -1)), turned(Room(ELL), 3).squares)
        for quarters in (0, 4, -4, 10 ** 50 * 4):
            self.assertTrue(turned(SLIT, quarters) == SLIT)
        self.assertTrue(turned(quarters=7, room=SLIT) == turned(SLIT, -1))
        self.assertTrue(turned(turned(SLIT, 1), 2) == turned(SLIT, 3))

    def test_turned_point(self):
        self.assertEqual([(3, 2), (-2, 3), (-3, -2), (2, -3), (3, 2), (2, -3), (-2, 3)],
                         [turned_point(SLIT, quarters, (3, 2)) for quarters in (0, 1, 2, 3, 4, -1, 10 ** 40 + 1)])
        self.assertEqual((-2, 3), turned_point(point=[3, 2], quarters=1, room=SLIT))

    def test_too_far(self):
        for square, allowed in (
            ((99, 0), (0, 1)), ((0, 99), (0, 3)), ((99, 99), (0,)), ((98, 98), (0, 1, 2, 3)), ((-99, -99), (0, 1, 2, 3)),
            ((99, -99), (0, 1)), ((-99, 99), (0, 3)),
        ):
            room = Room([square])
            point = (square[0], square[1])
            for quarters in range(4):
                if quarters in allowed:
                    self.assertEqual(1, turned(room, quarters).many)
                    self.assertEqual(2, len(turned_point(room, quarters, point)))
                else:
                    self.assert_raises(Misfit, "room", lambda: turned(room, quarters))
                    self.assert_raises(Misfit, "room", lambda: turned_point(room, quarters, point))

    def test_errors(self):
        for call in (lambda room, n: turned(room, n), lambda room, n: turned_point(room, n, None)):
            self.assert_bad(BadRoom, "room", ODD + (5,), lambda room: call(room, None))
            self.assert_bad(BadNumber, "quarters", NO_INTEGERS, lambda quarters: call(SLIT, quarters))
        for point in NO_POINTS + ((5, 5), (-1, 0)):
            self.assert_raises(BadPoint, "point", lambda: turned_point(SLIT, 1, point))
        self.assert_raises(BadPoint, "point", lambda: turned_point(Room([(99, 99)]), 1, (0, 0)))


class Mirroring(Checks):

    def test_mirrored(self):
        self.assertEqual("fine 2 / -2 0 / -2 1 / -1 0 / -1 1 / shut -2 0 -2 1", str(mirrored(SLIT)))
        self.assertTrue(mirrored(room=mirrored(SLIT)) == SLIT)
        self.assertEqual(((98, 99),), mirrored(Room([(-99, 99)])).squares)
        self.assertEqual((-3, 2), mirrored_point(SLIT, [3, 2]))
        self.assertEqual((0, 4), mirrored_point(point=(0, 4), room=SLIT))

    def test_errors(self):
        for room in (Room([(99, 0)]), Room([(99, 5), (98, 5)])):
            self.assert_raises(Misfit, "room", lambda: mirrored(room))
            self.assert_raises(Misfit, "room", lambda: mirrored_point(room, (99, room.squares[0][1])))
            self.assert_raises(BadPoint, "point", lambda: mirrored_point(room, (0, 0)))
        self.assert_bad(BadRoom, "room", ODD + (5,), mirrored)
        self.assert_bad(BadRoom, "room", ODD + (5,), lambda room: mirrored_point(room, None))
        self.assert_bad(BadPoint, "point", NO_POINTS + ((5, 5),), lambda point: mirrored_point(SLIT, point))


class Finer(Checks):

    def test_finer(self):
        self.assertEqual("fine 6 / 0 0 / 0 1 / 1 0 / 1 1 / shut 1 0 1 1", str(finer(SLIT, 3)))
        self.assertTrue(finer(SLIT, 1) == SLIT)
        for fine in range(1, 25):
            for times in range(1, 25):
                room = Room(ELL, (), fine)
                if fine * times <= 24:
                    self.assertEqual(fine * times, finer(room, times).fine)
                    self.assertEqual((times, 0), finer_point(room, times, (1, 0)))
                else:
                    self.assert_raises(Misfit, "times", lambda: finer(room, times))
                    self.assert_raises(Misfit, "times", lambda: finer_point(room, times, (1, 0)))
        self.assertEqual((9, 6), finer_point(point=[3, 2], times=3, room=SLIT))
        self.assertTrue(finer(times=2, room=SLIT) == Room(SLIT.squares, SLIT.shut, 4))

    def test_errors(self):
        for call in (lambda room, times: finer(room, times), lambda room, times: finer_point(room, times, None)):
            self.assert_bad(BadRoom, "room", ODD + (5,), lambda room: call(room, None))
            values = NO_INTEGERS + (0, -1, 25, 10 ** 50)
            self.assert_bad(BadNumber, "times", values, lambda times: call(SLIT, times))
        for point in NO_POINTS + ((5, 5),):
            self.assert_raises(BadPoint, "point", lambda: finer_point(SLIT, 24, point))


class Doors(Checks):

    def test_shut_and_opened(self):
        room = shut_up(Room(BLOCK, fine=3), [[0, 1], [0, 0]])
        self.assertTrue(room == Room(BLOCK, [SIDE], 3))
        self.assertTrue(opened(room, SIDE) == Room(BLOCK, fine=3))
        self.assertTrue(opened(side=SIDE[::-1], room=room) == Room(BLOCK, fine=3))
        self.assertTrue(shut_up(side=SIDE, room=Room(BLOCK)) == Room(BLOCK, [SIDE]))
        two = shut_up(Room(SLAB, [SIDE]), ((0, 2), (0, 3)))
        self.assertEqual((SIDE, ((0, 2), (0, 3))), two.shut)
        self.assertEqual((SIDE,), opened(two, [[0, 3], [0, 2]]).shut)
        self.assertEqual((((0, 2), (0, 3)),), opened(two, SIDE).shut)

    def test_all_sides_of_many_rooms(self):
        for room in grown_rooms(9, 60):
            for side in open_sides(room):
                self.assert_raises(Misfit, "side", lambda: opened(room, side))
                if hang_together(room.squares, room.shut + (side,)):
                    self.assertEqual(tuple(sorted(room.shut + (side,))), shut_up(room, side).shut)
                else:
                    self.assert_raises(Misfit, "side", lambda: shut_up(room, side))
            for side in room.shut:
                self.assert_raises(Misfit, "side", lambda: shut_up(room, side))
                self.assertEqual(set(room.shut) - {side}, set(opened(room, side).shut))
                self.assertTrue(shut_up(opened(room, side), side) == room)

    def test_errors(self):
        wrong = NO_POINTS + (
            ((0, 0), (1, 1)), ((0, 0), (-1, 0)), ((0, 0), (0, 0)), (SIDE,), SIDE + ((1, 1),), ((0, 0), (0, True)),
            (0, 0, 0, 1), ((0, 0), None), (None, (0, 0)), ((5, 5), (5, 6)), ((0, 0), (10 ** 30, 0)),
        )
        for call in (shut_up, opened):
            self.assert_bad(BadRoom, "room", ODD + (5,), lambda room: call(room, None))
            self.assert_bad(BadRoom, "side", wrong, lambda side: call(Room(BLOCK), side))


class All(Checks):

    def test_points_and_places_go_along(self):
        for room in grown_rooms(10, 40):
            for changed, led in (
                (moved(room, (3, -2)), lambda point: moved_point(room, (3, -2), point)),
                (turned(room, 1), lambda point: turned_point(room, 1, point)),
                (turned(room, -6), lambda point: turned_point(room, -6, point)),
                (turned(room, 3), lambda point: turned_point(room, 3, point)),
                (mirrored(room), lambda point: mirrored_point(room, point)),
            ):
                self.assertEqual(sorted(led(point) for point in points_in(room)), list(points_in(changed)))
                self.assertEqual(sorted(led(place) for place in places_of(room)), list(places_of(changed)))
                for point in points_in(room):
                    self.assertEqual(len(squares_at(room, point)), len(squares_at(changed, led(point))))
                self.assertEqual(len(room.shut), len(changed.shut))
            three = finer(room, 3)
            for point in points_in(room):
                self.assertIs(is_place(room, point), is_place(three, finer_point(room, 3, point)))

    def test_what_is_passed_stays(self):
        room, by, side, point = Room(*BENT), [1, 2], [[0, 0], [1, 0]], [1, 0]
        text = str(room)
        ring = Room(RING)
        for call in (
            lambda: moved(room, by), lambda: turned(room, 1), lambda: mirrored(room), lambda: finer(room, 2),
            lambda: moved_point(room, by, point), lambda: turned_point(room, 1, point),
            lambda: mirrored_point(room, point), lambda: finer_point(room, 2, point),
            lambda: opened(shut_up(ring, side), side),
        ):
            call()
        self.assertEqual((text, [1, 2], [[0, 0], [1, 0]], [1, 0]), (str(room), by, side, point))
        self.assertEqual((), ring.shut)
        self.assertIs(tuple, moved_point(room, by, point).__class__)


if __name__ == "__main__":
    unittest.main()
