"""What several tests share: odd values, sample rooms, and asking for an error with its fields."""

import random
import unittest

from neverhit.rooms import Room
from neverhit.sheets import Sheet


class OwnList(list):
    """A list of a class of its own."""


class AlwaysEqual:
    """A value that says it is equal to anything."""

    def __eq__(self, other):
        return True

    __hash__ = None


def nested(depth):
    """A list within lists."""
    value = []
    for _ in range(depth):
        value = [value]
    return value


# values of many kinds, none of which is an integer, a point, a room or a list of any of these
ODD = (
    True, False, None, "", " ", "a", "1", "12", "0 0", b"", b"12", 0.0, 1.0, 1.5, 1j, {}, {0: 0, 1: 1}, {"a": [1]},
    set(), {1, 2}, frozenset((1, 2)), object(), AlwaysEqual(), len, int, range(2), nested(29), [None], [[]], [[[]]],
    ["a", "b"], [1.0, 2.0], [True, False], [0, True], (None, None), ("0", "0"), {"x": 1, "y": 2}, "a" * 20000,
)
NO_INTEGERS = ODD + ([], (), (0, 0), [1], float("nan"), float("inf"))
NO_POINTS = ODD + (0, 1, [], (), (0,), (0, 0, 0), [0, 0.0], [0, None], ((0, 0), (0, 0)), [[0], [0]], 10 ** 200)


class Checks(unittest.TestCase):
    """A test case that can ask for errors with their fields."""

    def assert_raises(self, error, *told):
        """Whether told[-1], called, raises just this error with the other told values as its fields."""
        *fields, call = told
        with self.assertRaises(error) as caught:
            call()
        self.assertIs(error, caught.exception.__class__)
        self.assertEqual(dict(zip(FIELDS[error.__name__], fields, strict=True)), vars(caught.exception))

    def assert_bad(self, error, part, values, call):
        """Whether each of the values, when the call is given it, raises this error of this part."""
        for value in values:
            with self.subTest(value=repr(value)[:60]):
                self.assert_raises(error, part, lambda: call(value))

    def assert_bad_text(self, item, call, text):
        """Whether reading a text raises BadText at this item."""
        with self.subTest(text=repr(text)[:80]):
            with self.assertRaises(ValueError) as caught:
                call(text)
            self.assertEqual("BadText", caught.exception.__class__.__name__)
            self.assertEqual((0, item), (caught.exception.line, caught.exception.item))


FIELDS = {
    "NoName": ("value",), "Twice": ("value",), "TooMany": ("what", "most"), "BadText": ("line", "item"),
    "BadLine": ("line", "error"),
}
for _word in ("Number", "Point", "Room", "Place", "Way", "Sheet", "Book", "Word", "Name", "Paper"):
    FIELDS["Bad" + _word] = ("part",)
FIELDS["Misfit"] = ("part",)

ELL = ((0, 0), (1, 0), (0, 1))
BLOCK = ((0, 0), (1, 0), (0, 1), (1, 1))
# a room beside whose shut side, at (1, 1), the wall goes straight on below, and is a corner above
BENT = ([(0, 0), (1, 0), (2, 0), (2, 1), (1, 1)], [((1, 0), (1, 1))])
# a ring with a hole, a long row, a room of 8 squares with a point where all four sides are open
RING = [(0, 0), (1, 0), (2, 0), (2, 1), (2, 2), (1, 2), (0, 2), (0, 1)]
ROW = [(n, 0) for n in range(8)]
SLAB = [(i, j) for i in range(2) for j in range(4)]
# two shut sides in a line: the point between them is a place of all four of its squares
GATES = ([(i, j) for i in range(3) for j in range(2)], [((0, 0), (0, 1)), ((1, 0), (1, 1))])


def grown_rooms(seed, many, fines=(1, 2, 3)):
    """So many rooms, grown square by square, some of their sides shut; the same for the same seed."""
    chance = random.Random(seed)
    rooms = []
    while len(rooms) < many:
        squares = [(chance.randint(-3, 3), chance.randint(-3, 3))]
        wanted = chance.randint(1, 8)
        while len(squares) < wanted:
            i, j = chance.choice(squares)
            a, b = chance.choice(((1, 0), (0, 1), (-1, 0), (0, -1)))
            if (i + a, j + b) not in squares:
                squares.append((i + a, j + b))
        shut = []
        for side in sorted(sides_between(squares)):
            if chance.random() < 0.4 and hang_together(squares, shut + [side]):
                shut.append(side)
        rooms.append(Room(squares, shut, chance.choice(fines)))
    return rooms


def sides_between(squares):
    """All sides between some squares, the lesser square first."""
    return [(one, other) for one in squares for other in squares
            if one < other and abs(one[0] - other[0]) + abs(one[1] - other[1]) == 1]


def hang_together(squares, shut):
    """Whether squares hang together by the sides between them that are not shut, by joining lots."""
    lot = {square: square for square in squares}
    for one, other in sides_between(squares):
        if (one, other) not in shut and lot[one] != lot[other]:
            gone = lot[other]
            lot = {square: lot[one] if lot[square] == gone else lot[square] for square in squares}
    return len(set(lot.values())) == 1


def turning(many):
    """A sheet of one row that comes round."""
    return Sheet([(n + 1) % many for n in range(many)], list(range(many)), [0] * many)


def grown_sheets(seed, many):
    """So many sheets of any kind, with as few corners as can be, and some more."""
    chance = random.Random(seed)
    sheets = []
    while len(sheets) < many:
        count = chance.randint(1, 7)
        right, up = chance.sample(range(count), count), chance.sample(range(count), count)
        corners = [int(chance.random() < 0.15) for _ in range(count)]
        for n in range(count):
            if up[right[n]] != right[up[n]]:
                corners[up[right[n]]] = corners[right[up[n]]] = 1
        if reached(right, up) == set(range(count)):
            sheets.append(Sheet(right, up, corners))
    return sheets


def reached(right, up):
    """The squares to which one comes from the square 0."""
    found, old = {0}, set()
    while found != old:
        old = found
        found = old | {right[n] for n in old} | {up[n] for n in old}
    return found
