"""Rooms: squares, shut sides, fine; open sides and walls."""

import unittest

from common import (
    BENT, BLOCK, ELL, GATES, NO_INTEGERS, NO_POINTS, ODD, RING, ROW, SLAB, AlwaysEqual, Checks, OwnList, grown_rooms,
    hang_together, sides_between,
)

from neverhit.errors import BadRoom, Misfit
from neverhit.rooms import Room, open_sides, walls_of

SIDE = ((0, 0), (0, 1))


class Making(Checks):

    def test_squares_are_ascending_and_counted(self):
        room = Room([(1, 0), [0, 1], (0, 0), (-1, 0)])
        self.assertEqual(((-1, 0), (0, 0), (0, 1), (1, 0)), room.squares)
        self.assertEqual((4, (), 1), (room.many, room.shut, room.fine))
        self.assertEqual([tuple] * 4, [square.__class__ for square in room.squares])

    def test_shut_sides_are_ascending_the_lesser_square_first(self):
        sides = [[[1, 1], (1, 0)], ((1, 0), [2, 0])]
        room = Room([(0, 0), (0, 1), (1, 0), (1, 1), (2, 0), (2, 1)], sides, 3)
        self.assertEqual((((1, 0), (1, 1)), ((1, 0), (2, 0))), room.shut)
        self.assertIs(tuple, room.shut[0].__class__)
        self.assertEqual(3, room.fine)

    def test_by_place_by_name_lists_and_tuples(self):
        rooms = [
            Room(BLOCK, [SIDE], 2), Room(squares=list(BLOCK), shut=(SIDE,), fine=2),
            Room(fine=2, shut=[[[0, 1], [0, 0]]], squares=[list(square) for square in BLOCK]),
            Room(OwnList(BLOCK), OwnList([OwnList(SIDE)]), 2),
        ]
        for room in rooms:
            self.assertTrue(room == rooms[0])
            self.assertEqual(str(rooms[0]), str(room))

    def test_what_is_passed_stays_and_later_changes_change_nothing(self):
        squares, shut = [[1, 0], [0, 0], [0, 1], [1, 1]], [[[1, 0], [0, 0]]]
        room = Room(squares, shut, 1)
        self.assertEqual(([[1, 0], [0, 0], [0, 1], [1, 1]], [[[1, 0], [0, 0]]]), (squares, shut))
        text = str(room)
        squares[0][0] = 5
        squares.pop()
        shut[0][0][1] = 7
        shut.clear()
        self.assertEqual(text, str(room))
        self.assertEqual(((((0, 0), (1, 0))),), room.shut)

    def test_one_and_eight_squares(self):
        self.assertEqual(1, Room([(7, -7)]).many)
        for squares in (RING, ROW, SLAB):
            self.assertEqual((8, tuple(sorted(squares))), (Room(squares).many, Room(squares).squares))

    def test_squares_far_from_0(self):
        for a in (99, -99):
            for b in (99, -99, 0):
                self.assertEqual(((a, b),), Room([(a, b)]).squares)
                self.assertEqual(((b, a),), Room([(b, a)]).squares)

    def test_every_fine(self):
        for fine in range(1, 25):
            self.assertEqual(fine, Room(ELL, (), fine).fine)


class WrongRooms(Checks):

    def test_squares(self):
        self.assert_bad(BadRoom, "squares", [value for value in ODD + (0, 5, [], ())], Room)
        wrong = [
            ROW + [(8, 0)], [(0, 0), (0, 0)], [(0, 0), [0, 0]], [(0, 0), (1, 0), (0, 0)], [(0, 0), 5], [(0, 0), None],
            [(0, 0, 0)], [(0,)], [(0, True)], [(0, 1.0)], [(0, "1")], ["00"], (0, 0), [(100, 0)], [(0, -100)],
            [(-100, 0)], [(0, 100)], [(10 ** 50, 0)], [{0: 0, 1: 0}], {(0, 0): 1}, {(0, 0)}, [[(0, 0)]],
        ]
        self.assert_bad(BadRoom, "squares", wrong, Room)
        for value in NO_POINTS:
            self.assert_raises(BadRoom, "squares", lambda: Room([(0, 0), value]))

    def test_shut(self):
        self.assert_bad(BadRoom, "shut", ODD + (0, 5, SIDE), lambda shut: Room(BLOCK, shut))
        wrong = [
            [SIDE, SIDE], [SIDE, SIDE[::-1]], [SIDE, [[0, 1], [0, 0]]], [((0, 0), (1, 1))], [((0, 0), (0, 0))],
            [((0, 0), (-1, 0))], [((1, 1), (1, 2))], [((5, 5), (5, 6))], [((0, 0),)], [((0, 0), (0, 1), (1, 1))],
            [SIDE, None], [((0, 0), None)], [((0, 0), (0, True))], [((0, 0), (0, 1.0))], [((0, 0), (0, 2))],
            [((0, 0), (10 ** 30, 1))], [(0, 0, 0, 1)], [{}], ["ab"],
        ]
        self.assert_bad(BadRoom, "shut", wrong, lambda shut: Room(BLOCK, shut))
        for value in ODD + (0, [], (0, 0)):
            self.assert_raises(BadRoom, "shut", lambda: Room(BLOCK, [value]))
            self.assert_raises(BadRoom, "shut", lambda: Room(BLOCK, [(value, (0, 0))]))

    def test_fine(self):
        values = NO_INTEGERS + (0, 25, -1, 10 ** 60, -24)
        self.assert_bad(BadRoom, "fine", values, lambda fine: Room(ELL, (), fine))

    def test_hanging_together(self):
        for squares, shut in (
            ([(0, 0), (1, 1)], ()), ([(0, 0), (2, 0)], ()), ([(0, 0), (1, 0)], [((0, 0), (1, 0))]),
            (ELL, [SIDE]), (BLOCK, [SIDE, ((1, 0), (1, 1))]), (BLOCK, [SIDE, ((0, 0), (1, 0))]),
            (RING, [((0, 0), (0, 1)), ((2, 1), (2, 2))]), ([(0, 0), (1, 0), (3, 0), (4, 0)], ()),
        ):
            self.assert_raises(Misfit, "shut", lambda: Room(squares, shut))
        self.assertEqual(1, len(Room(RING, [((0, 0), (0, 1))]).shut))

    def test_hanging_together_for_all_lots_of_a_room(self):
        for squares in (BLOCK, BENT[0], SLAB[:6], RING):
            sides = sides_between(squares)
            for lot in range(2 ** len(sides)):
                shut = [side for at, side in enumerate(sides) if lot >> at & 1]
                if hang_together(squares, shut):
                    self.assertEqual(tuple(sorted(shut)), Room(squares, shut).shut)
                else:
                    self.assert_raises(Misfit, "shut", lambda: Room(squares, shut))

    def test_the_first_of_several(self):
        self.assert_raises(BadRoom, "squares", lambda: Room([(0, 0), (0, 0)], 5, 0))
        self.assert_raises(BadRoom, "squares", lambda: Room(fine=None, shut=None, squares=None))
        self.assert_raises(BadRoom, "shut", lambda: Room([(0, 0), (5, 5)], [SIDE], 0))
        self.assert_raises(BadRoom, "fine", lambda: Room([(0, 0), (5, 5)], [], 0))
        self.assert_raises(BadRoom, "fine", lambda: Room(ELL, [SIDE], 25))


class Equal(Checks):

    def test_equal_exactly_if_all_is(self):
        room = Room(BLOCK, [SIDE], 2)
        self.assertTrue(room == Room(BLOCK[::-1], [SIDE[::-1]], 2))
        self.assertFalse(room != Room(BLOCK[::-1], [SIDE[::-1]], 2))
        for other in (Room(BLOCK, [SIDE], 3), Room(BLOCK, [], 2), Room(BLOCK, [((0, 0), (1, 0))], 2), Room(ELL, [], 2)):
            self.assertIs(False, room == other)
            self.assertIs(True, room != other)
        self.assertIs(False, Room(ELL) == Room(BLOCK))
        self.assertIs(False, Room(ROW[:3]) == Room([(n, 1) for n in range(3)]))

    def test_equal_to_no_other_value(self):
        room = Room([(0, 0)])
        for value in ODD + (AlwaysEqual(), str(room), ((0, 0),), room.squares):
            self.assertIs(False, room == value)
            self.assertIs(True, room != value)


class Sides(Checks):

    def test_open_sides(self):
        self.assertEqual((), open_sides(Room([(0, 0)])))
        self.assertEqual((SIDE, ((0, 0), (1, 0)), ((0, 1), (1, 1)), ((1, 0), (1, 1))), open_sides(Room(BLOCK)))
        self.assertEqual((((0, 0), (1, 0)), ((0, 1), (1, 1)), ((1, 0), (1, 1))), open_sides(Room(BLOCK, [SIDE])))
        for room in grown_rooms(2, 60):
            wanted = sorted(set(sides_between(room.squares)) - set(room.shut))
            self.assertEqual(tuple(wanted), open_sides(room))

    def test_walls(self):
        self.assertEqual((((-3, 5), (-3, 6)), ((-3, 5), (-2, 5)), ((-3, 6), (-2, 6)), ((-2, 5), (-2, 6))),
                         walls_of(Room([(-3, 5)], fine=7)))
        self.assertEqual(8, len(walls_of(Room(BLOCK))))
        self.assertIn(((0, 1), (1, 1)), walls_of(Room(BLOCK, [SIDE])))
        self.assertIn(((1, 0), (1, 1)), walls_of(Room(BLOCK, [((0, 0), (1, 0))])))
        for room in grown_rooms(3, 60):
            self.assertEqual(self.walls(room), walls_of(room))

    def walls(self, room):
        """The walls, each told from between which squares it stands."""
        walls = set()
        for i, j in room.squares:
            for beyond, ends in (
                ((i + 1, j), ((i + 1, j), (i + 1, j + 1))), ((i - 1, j), ((i, j), (i, j + 1))),
                ((i, j + 1), ((i, j + 1), (i + 1, j + 1))), ((i, j - 1), ((i, j), (i + 1, j))),
            ):
                if beyond not in room.squares or tuple(sorted([(i, j), beyond])) in room.shut:
                    walls.add(ends)
        return tuple(sorted(walls))

    def test_they_hang_on_room_alone_and_by_name(self):
        room = Room(*GATES)
        self.assertEqual(5, len(open_sides(room=room)))
        self.assertEqual(12, len(walls_of(room=room)))
        for function in (open_sides, walls_of):
            self.assert_bad(BadRoom, "room", ODD + (5, [], "fine 1 / 0 0", BLOCK), function)


if __name__ == "__main__":
    unittest.main()
