"""Makers: all rooms of so many squares, alike and least rooms, dark rooms, lots that can be shut."""

import random
import unittest
from itertools import combinations, product

from common import (
    BENT, BLOCK, ELL, GATES, NO_INTEGERS, ODD, RING, SLAB, Checks, grown_rooms, hang_together, sides_between,
)

from neverhit.changed import finer, mirrored, moved, turned
from neverhit.errors import BadNumber, BadRoom
from neverhit.makers import Alike, Unlike, alike, dark_rooms, least_room, rooms_of, shut_lots
from neverhit.maps import dark_pairs
from neverhit.papers import Denial, Paper
from neverhit.rooms import Room, open_sides

CORNER = Room(ELL)
SLIT = Room(BLOCK, [((1, 0), (1, 1))], 2)


def all_turns(room):
    """All eight rooms that come by mirroring, or not, and turning, with how they come; the room lies near 0.

    A square is led by its middle, told in half sides.
    """
    found = []
    for is_mirrored in (False, True):
        for quarters in range(4):
            led = {}
            for i, j in room.squares:
                x, y = 2 * i + 1, 2 * j + 1
                x = -x if is_mirrored else x
                x, y = ((x, y), (-y, x), (-x, -y), (y, -x))[quarters]
                led[(i, j)] = ((x - 1) // 2, (y - 1) // 2)
            shut = [(led[one], led[other]) for one, other in room.shut]
            found.append((is_mirrored, quarters, Room(list(led.values()), shut, room.fine)))
    return found


def home(room):
    """The room moved so that its least numbers are 0."""
    return moved(room, (-min(i for i, _ in room.squares), -min(j for _, j in room.squares)))


def first_alike(one, other):
    """The parts of the first Alike, None if there is none: by trial of all ways to turn."""
    for is_mirrored, quarters, room in all_turns(one):
        by = (other.squares[0][0] - room.squares[0][0], other.squares[0][1] - room.squares[0][1])
        if moved(room, by) == other:
            return (is_mirrored, quarters, by)
    return None


def hanging(many):
    """All lots of so many squares that hang together and fill a box, least numbers 0."""
    found = []
    for wide, high in product(range(1, many + 1), repeat=2):
        # each row and each column but the first one needs one more square
        if wide + high - 1 <= many:
            for squares in combinations(list(product(range(wide), range(high))), many):
                sides = (min(i for i, _ in squares), max(i for i, _ in squares),
                         min(j for _, j in squares), max(j for _, j in squares))
                if sides == (0, wide - 1, 0, high - 1) and hang_together(squares, []):
                    found.append(squares)
    return found


class AllRooms(Checks):

    def test_by_hand(self):
        self.assertEqual([((0, 0),)], [room.squares for room in rooms_of(1)])
        self.assertEqual([((0, 0), (0, 1))], [room.squares for room in rooms_of(many=2)])
        self.assertEqual([((0, 0), (0, 1), (0, 2)), ((0, 0), (0, 1), (1, 0))], [room.squares for room in rooms_of(3)])
        self.assertEqual([
            ((0, 0), (0, 1), (0, 2), (0, 3)), ((0, 0), (0, 1), (0, 2), (1, 0)), ((0, 0), (0, 1), (0, 2), (1, 1)),
            ((0, 0), (0, 1), (1, 0), (1, 1)), ((0, 0), (0, 1), (1, 1), (1, 2)),
        ], [room.squares for room in rooms_of(4)])

    def test_how_many(self):
        self.assertEqual([1, 1, 2, 5, 12, 35], [len(rooms_of(many)) for many in range(1, 7)])

    def test_unlike_least_ascending(self):
        for many in range(1, 7):
            rooms = rooms_of(many)
            self.assertIs(tuple, rooms.__class__)
            self.assertEqual([room.squares for room in rooms], sorted({room.squares for room in rooms}))
            for room in rooms:
                self.assertEqual((many, (), 1), (room.many, room.shut, room.fine))
                self.assertTrue(least_room(room) == room)
            if many < 6:
                self.assertFalse(any([alike(one, other) for one, other in combinations(rooms, 2)]))

    def test_all_that_there_are(self):
        # each lot of squares that hangs together is alike to one of them: so many are there, each in all its places
        for many, fixed in zip(range(1, 7), (1, 2, 6, 19, 63, 216), strict=True):
            told = [room.squares for room in rooms_of(many)]
            lots = hanging(many)
            self.assertEqual(fixed, len(lots))
            least = {min(home(room).squares for _, _, room in all_turns(Room(squares))) for squares in lots}
            self.assertEqual(sorted(least), told)

    def test_errors(self):
        for call in (rooms_of, dark_rooms):
            self.assert_bad(BadNumber, "many", NO_INTEGERS + (0, 7, -1, 10 ** 40), call)


class AlikeRooms(Checks):

    def test_by_hand(self):
        self.assertEqual((False, 0, (0, 0)), alike(CORNER, CORNER).parts)
        self.assertEqual((False, 3, (4, 6)), alike(CORNER, Room([(5, 5), (4, 5), (4, 4)])).parts)
        self.assertTrue(alike(CORNER, Room([(0, 0), (1, 0), (2, 0)])) == Unlike())
        self.assertEqual((False, 2, (0, 2)), alike(other=mirrored(SLIT), one=SLIT).parts)
        self.assertEqual("unlike", alike(SLIT, finer(SLIT, 2)).word)
        self.assertEqual("unlike", alike(SLIT, Room(BLOCK, fine=2)).word)
        long = Room([(0, 0), (1, 0), (2, 0), (2, 1)])
        self.assertEqual((True, 0, (3, 0)), alike(long, Room([(0, 0), (1, 0), (2, 0), (0, 1)])).parts)

    def test_by_trial_of_all_turns(self):
        chance = random.Random(190)
        rooms = grown_rooms(191, 60) + [Room(*BENT), Room(*GATES), Room(RING), Room(SLAB), CORNER, SLIT]
        seen = {}
        for room in rooms:
            for _ in range(4):
                _, _, other = chance.choice(all_turns(room))
                other = moved(other, (chance.randint(-9, 9), chance.randint(-9, 9)))
                if chance.random() < 0.2:
                    other = Room(other.squares, other.shut, other.fine % 3 + 1)
                if chance.random() < 0.2:
                    other = chance.choice(rooms)
                if chance.random() < 0.2 and other.shut:
                    other = Room(other.squares, other.shut[1:], other.fine)
                wanted, told = first_alike(room, other), alike(room, other)
                if wanted is None:
                    self.assertTrue(told == Unlike())
                else:
                    self.assertIs(Alike, told.__class__)
                    self.assertEqual(wanted, told.parts)
                    self.assertIs(wanted[0], told.is_mirrored)
                key = wanted and wanted[:2]
                seen[key] = seen.get(key, 0) + 1
        self.assertEqual(9, len(seen))

    def test_the_way_there_may_be_far_out(self):
        for squares in ([(99, -99), (98, -99), (98, -98)], [(-99, 99), (-99, 98)], [(99, 99)], [(-99, -99), (-98, -99)]):
            room = Room(squares)
            near = home(room)
            told = alike(room, near)
            self.assertEqual((False, 0), told.parts[:2])
            self.assertTrue(moved(room, told.by) == near)
            self.assertTrue(alike(near, room))
            self.assertTrue(alike(room, turned(near, 1)))
            self.assertTrue(least_room(room) == least_room(near))

    def test_the_papers(self):
        paper = Alike(True, 3, [1, -2])
        self.assertEqual(("alike", (True, 3, (1, -2))), (paper.word, paper.parts))
        self.assertEqual((True, 3, (1, -2)), (paper.is_mirrored, paper.quarters, paper.by))
        self.assertTrue(paper == Alike(by=(1, -2), quarters=3, is_mirrored=True))
        self.assertEqual(("unlike", ()), (Unlike().word, Unlike().parts))
        self.assertEqual([True, False], [bool(paper), bool(Unlike())])
        self.assertEqual([(Paper,), (Denial,)], [made.__bases__ for made in (Alike, Unlike)])
        self.assertFalse(Unlike() == Denial("unlike"))

    def test_errors(self):
        self.assert_bad(BadRoom, "one", ODD + (5, ELL), lambda value: alike(value, None))
        self.assert_bad(BadRoom, "other", ODD + (5, ELL), lambda value: alike(CORNER, value))
        self.assert_bad(BadRoom, "room", ODD + (5, ELL), least_room)
        self.assert_bad(BadRoom, "room", ODD + (5, ELL), shut_lots)


class LeastRooms(Checks):

    def test_by_hand(self):
        self.assertEqual((((0, 0), (0, 1)),), least_room(SLIT).shut)
        self.assertEqual(2, least_room(SLIT).fine)
        told = least_room(room=Room([(2, 2), (3, 2), (3, 3)], fine=4))
        self.assertTrue(told == Room([(0, 0), (0, 1), (1, 0)], fine=4))
        self.assertTrue(least_room(Room([(-7, 9)])) == Room([(0, 0)]))

    def test_by_trial_of_all_turns(self):
        for room in grown_rooms(192, 80) + [Room(*BENT), Room(*GATES), Room(RING), SLIT]:
            wanted = min((home(other).squares, home(other).shut) for _, _, other in all_turns(room))
            told = least_room(room)
            self.assertEqual(wanted, (told.squares, told.shut))
            self.assertEqual(room.fine, told.fine)
            self.assertTrue(alike(room, told))
            for _, _, other in all_turns(room):
                self.assertTrue(least_room(moved(other, (3, -5))) == told)


class DarkRooms(Checks):

    def test_by_hand(self):
        like_u, like_w = ((0, 0), (0, 1), (1, 1), (1, 2), (2, 1)), ((0, 0), (0, 1), (1, 1), (1, 2), (2, 2))
        told = dark_rooms(5)
        self.assertEqual([like_u, like_w], [room.squares for room, _ in told])
        self.assertEqual([(((0, 1), (2, 1)),), (((0, 1), (2, 3)),)], [pairs for _, pairs in told])
        self.assertEqual([(tuple, tuple)] * 2, [(pair.__class__, pair[1].__class__) for pair in told])
        for many in (1, 2, 3, 4):
            self.assertEqual((), dark_rooms(many=many))

    def test_as_maps_tell_them(self):
        for many in (4, 5):
            wanted = [(room, dark_pairs(room)) for room in rooms_of(many) if dark_pairs(room)]
            told = dark_rooms(many)
            self.assertEqual([pairs for _, pairs in wanted], [pairs for _, pairs in told])
            self.assertTrue(all(one == other for (one, _), (other, _) in zip(wanted, told, strict=True)))

    def test_none_of_six_squares(self):
        self.assertEqual((), dark_rooms(6))


class Lots(Checks):

    def test_by_hand(self):
        self.assertEqual(((),), shut_lots(Room([(0, 0), (1, 0)])))
        self.assertEqual(((),), shut_lots(Room([(0, 0)], fine=3)))
        self.assertEqual(((), (((0, 0), (0, 1)),), (((0, 0), (1, 0)),), (((0, 1), (1, 1)),), (((1, 0), (1, 1)),)),
                         shut_lots(room=Room(BLOCK)))
        self.assertEqual(((),), shut_lots(SLIT))
        # ascending as tuples are: a lot of two sides ahead of lots of one greater side
        west, east = ((0, 0), (0, 1)), ((2, 0), (2, 1))
        six = shut_lots(Room(GATES[0]))
        self.assertEqual(((), (west,), (west, ((1, 0), (1, 1)))), six[:3])
        self.assertEqual((east,), six[-1])

    def test_by_own_hanging_together(self):
        rooms = grown_rooms(193, 60) + [Room(*BENT), Room(*GATES), Room(RING), Room(SLAB), Room(GATES[0])]
        rooms.append(Room([(i, j) for i in range(3) for j in range(3) if (i, j) != (2, 2)]))
        for room in rooms:
            sides = [side for side in sides_between(room.squares) if side not in room.shut]
            lots = [()]
            for side in sorted(sides):
                lots = lots + [lot + (side,) for lot in lots]
            wanted = sorted(lot for lot in lots if hang_together(room.squares, list(room.shut + lot)))
            self.assertEqual(tuple(wanted), shut_lots(room))
            for lot in shut_lots(room)[:5]:
                self.assertEqual(len(open_sides(room)) - len(lot), len(open_sides(Room(room.squares, room.shut + lot))))


if __name__ == "__main__":
    unittest.main()
