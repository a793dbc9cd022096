"""Folds of a room upon a ground, points down and up, rays that come down."""

import random
import unittest
from itertools import product

import oracle
from common import BENT, BLOCK, ELL, GATES, NO_INTEGERS, NO_POINTS, ODD, RING, ROW, AlwaysEqual, Checks, grown_rooms

from neverhit.errors import BadNumber, BadPaper, BadPlace, BadPoint, BadRoom, BadWay, Misfit
from neverhit.folds import Fold, NoFold, folds_of, folds_onto, point_down, points_up, ray_down
from neverhit.papers import Denial, Paper
from neverhit.places import is_place, places_of, points_in, squares_at
from neverhit.rays import stand_after
from neverhit.rooms import Room
from neverhit.sheets import square_point

CORNER = Room(ELL)
BAY = Room([(0, 0), (1, 0), (2, 0), (3, 0), (0, 1), (3, 1)])
ROWS = ((0, 0), (1, 0), (2, 0), (2, 1), (0, 1), (1, 1))
SIDES = {"E": (1, 0), "N": (0, 1), "W": (-1, 0), "S": (0, -1)}


def turned(letter, copy):
    """The side at which a side lies in a copy."""
    if copy in (1, 3):
        letter = {"E": "W", "W": "E"}.get(letter, letter)
    if copy in (2, 3):
        letter = {"N": "S", "S": "N"}.get(letter, letter)
    return letter


def beyond(room, square, letter):
    """The number of the square beyond an open side of a square, None at a wall."""
    (i, j), (a, b) = room.squares[square], SIDES[letter]
    return room.squares.index((i + a, j + b)) if oracle.is_open(room, (i, j), (i + a, j + b)) else None


def is_fold(room, ground, rows):
    """Whether rows are those of a fold, by the words of the document."""
    for s, (t, c) in enumerate(rows):
        for letter in "ENWS":
            other, below = beyond(room, s, letter), beyond(ground, t, turned(letter, c))
            if other is None:
                if below is not None:
                    return False
                continue
            exchanged = {0: 1, 1: 0, 2: 3, 3: 2}[c] if letter in "EW" else {0: 2, 1: 3, 2: 0, 3: 1}[c]
            if rows[other] != ((t, exchanged) if below is None else (below, c)):
                return False
    return True


def doubled(room, line):
    """A room and its picture in a mirror that lies along a line to the east of it, where the room has walls."""
    squares = room.squares + tuple((2 * line - i - 1, j) for i, j in room.squares)
    shut = room.shut + tuple(((2 * line - i - 1, j), (2 * line - k - 1, m)) for (i, j), (k, m) in room.shut)
    return Room(squares, shut, room.fine)


def folded_pairs():
    """Rooms with grounds upon which they can be folded, and some folds."""
    found = [(BAY, CORNER), (CORNER, Room([(5, 5)])), (Room(ROW), Room([(0, 0)])), (Room(RING), Room([(0, 0)])),
             (Room(BLOCK), Room([(0, 0), (0, 1)])), (Room(ROW), Room([(n, 0) for n in range(4)])), (CORNER, CORNER)]
    for room in grown_rooms(110, 80, (1, 2)):
        if room.many < 5:
            found.append((doubled(room, max(i for i, _ in room.squares) + 1), room))
    return found


class Folds(Checks):

    def test_by_hand(self):
        self.assertEqual((ROWS,), folds_of(BAY, CORNER))
        self.assertEqual((), folds_of(CORNER, BAY))
        self.assertEqual(
            tuple(((0, c), (0, c ^ 2), (0, c ^ 1)) for c in range(4)), folds_of(CORNER, Room([(5, 5)])))
        self.assertEqual((((0, 0), (1, 0)), ((0, 2), (1, 2)), ((1, 1), (0, 1)), ((1, 3), (0, 3))),
                         folds_of(Room([(7, 0), (8, 0)]), ground=Room([(0, 0), (1, 0)])))

    def test_all_of_them_by_the_words(self):
        rooms = [room for room in grown_rooms(111, 60, (1,)) if room.many < 4]
        chance = random.Random(112)
        counts = {}
        for _ in range(60):
            room, ground = chance.choice(rooms), chance.choice(rooms)
            pairs = list(product(range(ground.many), range(4)))
            wanted = [rows for rows in product(pairs, repeat=room.many) if is_fold(room, ground, rows)]
            self.assertEqual(tuple(wanted), folds_of(room, ground))
            counts[len(wanted)] = counts.get(len(wanted), 0) + 1
        self.assertGreater(len(counts), 2)

    def test_mirrored_copies_are_folded_upon_their_ground(self):
        for room, ground in folded_pairs():
            told = folds_of(room, ground)
            self.assertEqual(sorted(set(told)), list(told))
            self.assertTrue(told)
            for rows in told:
                self.assertTrue(is_fold(room, ground, rows))
            self.assertTrue(folds_onto(room, ground) == Fold(told[0]))

    def test_upon_one_square_in_four_ways(self):
        for room in grown_rooms(113, 30, (1, 3)) + [Room(*GATES), Room(*BENT)]:
            told = folds_of(room, Room([(0, 0)], fine=room.fine))
            self.assertEqual([0, 1, 2, 3], [rows[0][1] for rows in told])
            # folded square by square upon the square (0, 0) each point comes to its square point in one of them
            i, j = room.squares[0]
            rows = told[(i & 1) + 2 * (j & 1)]
            for point in points_in(room):
                for square in squares_at(room, point):
                    down = point_down(room, Room([(0, 0)], fine=room.fine), rows, square, point)
                    self.assertEqual(square_point(room, point), down)

    def test_none(self):
        paper = folds_onto(CORNER, BAY)
        self.assertIs(NoFold, paper.__class__)
        self.assertTrue(paper == NoFold())
        self.assertEqual((), folds_of(Room([(0, 0)]), CORNER))
        self.assertEqual("nofold", folds_onto(Room(BLOCK), Room([(0, 0), (1, 0), (2, 0)])).word)
        # with a slit it cannot be laid upon the block, as there is a wall where the block has none
        self.assertEqual((), folds_of(Room(BLOCK, [((1, 0), (1, 1))]), Room(BLOCK)))
        self.assertEqual(4, len(folds_of(Room(BLOCK), Room(BLOCK))))

    def test_shut_sides(self):
        slit = Room(BLOCK, [((1, 0), (1, 1))])
        # as it is, and with north and south exchanged, each square then being laid upon the other one of its column
        self.assertEqual((((0, 0), (1, 0), (2, 0), (3, 0)), ((1, 2), (0, 2), (3, 2), (2, 2))), folds_of(slit, slit))
        self.assertEqual((), folds_of(slit, Room([(9, 9), (9, 8), (8, 9), (8, 8)])))

    def test_the_papers(self):
        fold = Fold([[0, 1], (2, 3)])
        self.assertEqual(("fold", (((0, 1), (2, 3)),), ((0, 1), (2, 3))), (fold.word, fold.parts, fold.rows))
        self.assertTrue(fold == Fold(rows=((0, 1), [2, 3])))
        self.assertIs(True, bool(fold))
        self.assertEqual((Paper,), Fold.__bases__)
        self.assertEqual(("nofold", ()), (NoFold().word, NoFold().parts))
        self.assertIs(False, bool(NoFold()))
        self.assertEqual((Denial,), NoFold.__bases__)
        self.assertTrue(NoFold() == NoFold())
        self.assertFalse(NoFold() == Fold(()))

    def test_errors(self):
        for call in (folds_of, folds_onto):
            self.assert_bad(BadRoom, "room", ODD + (5,), lambda value: call(value, None))
            self.assert_bad(BadRoom, "ground", ODD + (5,), lambda value: call(BAY, value))
            self.assert_raises(Misfit, "ground", lambda: call(BAY, Room([(0, 0)], fine=2)))
            self.assert_raises(Misfit, "ground", lambda: call(Room([(0, 0)], fine=2), BAY))


class DownAndUp(Checks):

    def test_by_hand(self):
        self.assertEqual((1, 0), point_down(BAY, CORNER, ROWS, 4, (3, 0)))
        self.assertEqual((1, 0), point_down(rows=[list(pair) for pair in ROWS], ground=CORNER, room=BAY, square=3,
                                            point=[3, 0]))
        self.assertEqual(((1, 0), (3, 0)), points_up(BAY, CORNER, ROWS, [1, 0]))
        self.assertEqual(((0, 0), (4, 0)), points_up(room=BAY, ground=CORNER, rows=ROWS, point=(0, 0)))
        self.assertEqual(((2, 0),), points_up(BAY, CORNER, ROWS, (2, 0)))

    def test_down_by_the_words(self):
        for room, ground in folded_pairs():
            fine = room.fine
            for rows in folds_of(room, ground)[:2]:
                for point in points_in(room)[::3]:
                    for square in squares_at(room, point):
                        t, c = rows[square]
                        (i, j), (k, m) = room.squares[square], ground.squares[t]
                        west, south = point[0] - i * fine, point[1] - j * fine
                        wanted = ((k + 1) * fine - west if c in (1, 3) else k * fine + west,
                                  (m + 1) * fine - south if c in (2, 3) else m * fine + south)
                        self.assertEqual(wanted, point_down(room, ground, rows, square, point))
                        self.assertIn(point, points_up(room, ground, rows, wanted))

    def test_up_are_all_that_come_down(self):
        for room, ground in folded_pairs():
            for rows in folds_of(room, ground)[:1]:
                for point in points_in(ground)[::2]:
                    wanted = [above for above in points_in(room) if point in
                              [point_down(room, ground, rows, square, above) for square in squares_at(room, above)]]
                    self.assertEqual(tuple(wanted), points_up(room, ground, rows, point))

    def test_a_shut_side_is_folded_from_both_faces(self):
        hook = Room(BLOCK, [((0, 0), (1, 0))], 2)
        for rows in folds_of(hook, Room([(0, 0)], fine=2)):
            downs = [point_down(hook, Room([(0, 0)], fine=2), rows, square, (2, 1)) for square in (0, 2)]
            self.assertEqual(downs[:1] * 2, downs)
        self.assertEqual(((2, 1),), points_up(hook, hook, folds_of(hook, hook)[0], (2, 1)))
        self.assertEqual(2, len(folds_of(hook, hook)))

    def test_errors(self):
        calls = (
            lambda room, ground, rows: point_down(room, ground, rows, 0, (0, 0)),
            lambda room, ground, rows: points_up(room, ground, rows, (0, 0)),
            lambda room, ground, rows: ray_down(room, ground, rows, 0, (1, 0), (0, 1)),
        )
        bad = ODD + (
            5, ROWS[:5], ROWS + ((0, 0),), ROWS[::-1], [(0, 0)] * 6, ROWS[:5] + ((1, 0),), ROWS[:5] + ((1, True),),
            ROWS[:5] + ((1, 1.0),), ROWS[:5] + (None,), ROWS[:5] + ((1, 1, 1),), ROWS[:5] + ([AlwaysEqual(), 1],),
            Fold(ROWS), "000102", {0: 1}, ((3, 0),) + ROWS[1:], ((0, 4),) + ROWS[1:], ((-1, 0),) + ROWS[1:],
        )
        for call in calls:
            self.assert_bad(BadRoom, "room", ODD + (5,), lambda value: call(value, None, None))
            self.assert_bad(BadRoom, "ground", ODD + (5,), lambda value: call(BAY, value, None))
            self.assert_bad(BadPaper, "rows", bad, lambda value: call(BAY, CORNER, value))
            self.assert_raises(BadPaper, "rows", lambda: call(BAY, Room(ELL, fine=2), ROWS))
            self.assert_raises(BadPaper, "rows", lambda: call(CORNER, BAY, ROWS))

    def test_errors_of_points(self):
        squares = NO_INTEGERS + (6, -1)
        self.assert_bad(BadNumber, "square", squares, lambda value: point_down(BAY, CORNER, ROWS, value, None))
        self.assert_bad(BadPoint, "point", NO_POINTS, lambda value: point_down(BAY, CORNER, ROWS, 0, value))
        for point in ((3, 0), (2, 0), (-1, 0), (9, 9), (10 ** 50, 0)):
            self.assert_raises(Misfit, "point", lambda: point_down(BAY, CORNER, ROWS, 0, point))
        self.assert_bad(BadPoint, "point", NO_POINTS, lambda value: points_up(BAY, CORNER, ROWS, value))
        for point in ((2, 2), (3, 0), (-1, 0), (10 ** 50, 0)):
            self.assert_raises(Misfit, "point", lambda: points_up(BAY, CORNER, ROWS, point))


class Rays(Checks):

    def test_by_hand(self):
        self.assertEqual((0, (1, 0), (-1, 2)), ray_down(BAY, CORNER, ROWS, 4, [3, 0], (1, 2)))
        self.assertEqual((2, (1, 0), (1, 2)), ray_down(BAY, CORNER, ROWS, 2, (1, 0), [1, 2]))
        below = Room([(5, 5)])
        rows = folds_of(CORNER, below)[3]
        self.assertEqual((0, (5, 6), (-3, -2)), ray_down(CORNER, below, rows, 0, (1, 0), (3, 2)))

    def test_step_by_step_the_one_stands_above_the_other(self):
        chance = random.Random(114)
        looked = 0
        for room, ground in folded_pairs():
            places = places_of(room)
            for _ in range(4 if places else 0):
                rows, place = chance.choice(folds_of(room, ground)), chance.choice(places)
                square = chance.choice(squares_at(room, place))
                way = chance.choice(((1, 1), (-1, 2), (3, 1), (0, -1), (1, 0), (-2, -3)))
                below, down, led = ray_down(room, ground, rows, square, place, way)
                self.assertEqual(rows[square][0], below)
                if not is_place(ground, down):
                    continue
                for steps in range(12):
                    try:
                        above = stand_after(room, square, place, way, steps)
                        under = stand_after(ground, below, down, led, steps)
                    except Misfit:
                        break
                    # which of two squares beside a line it is told to go along may be another one there
                    downs = [point_down(room, ground, rows, s, above[1]) for s in squares_at(room, above[1])]
                    self.assertIn(under[1], downs)
                    if above[2][0] and above[2][1]:
                        self.assertEqual(under, ray_down_of(room, ground, rows, above))
                    looked += 1
        self.assertGreater(looked, 200)

    def test_errors(self):
        squares = NO_INTEGERS + (6, -1)
        self.assert_bad(BadNumber, "square", squares, lambda value: ray_down(BAY, CORNER, ROWS, value, None, None))
        places = NO_POINTS + ((0, 0), (9, 9), (1, 1))
        self.assert_bad(BadPlace, "place", places, lambda value: ray_down(BAY, CORNER, ROWS, 0, value, None))
        ways = NO_POINTS + ((0, 0), (2, 4), (10 ** 12 + 1, 1), (True, 0))
        self.assert_bad(BadWay, "way", ways, lambda value: ray_down(BAY, CORNER, ROWS, 0, (3, 0), value))
        self.assert_raises(Misfit, "place", lambda: ray_down(BAY, CORNER, ROWS, 0, (3, 0), (1, 0)))
        rows = [list(pair) for pair in ROWS]
        ray_down(BAY, CORNER, rows, 4, (3, 0), (1, 2)), points_up(BAY, CORNER, rows, (1, 0))
        self.assertEqual([list(pair) for pair in ROWS], rows)


def ray_down_of(room, ground, rows, stand):
    """How a ray stands in the ground that stands so in the room."""
    square, (x, y), (p, q) = stand
    t, c = rows[square]
    point = point_down(room, ground, rows, square, (x, y))
    return (t, point, (-p if c in (1, 3) else p, -q if c in (2, 3) else q))


if __name__ == "__main__":
    unittest.main()
