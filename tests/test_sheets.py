"""Sheets, their texts, the sheet of a room, marks, straight ways, points folded upon one square."""

import random
import unittest
from fractions import Fraction
from math import gcd

import oracle
from common import (
    BENT, BLOCK, ELL, GATES, NO_INTEGERS, NO_POINTS, ODD, RING, ROW, SLAB, AlwaysEqual, Checks, OwnList, grown_rooms,
    grown_sheets, reached, turning,
)

from neverhit.errors import BadNumber, BadPoint, BadRoom, BadSheet, BadWay, Misfit
from neverhit.places import places_of, points_in, squares_at
from neverhit.rays import stand_after, track_of
from neverhit.rooms import Room
from neverhit.sheets import Sheet, marks_of, onward, point_at, sheet_of, square_point

ALL = [0, 1, 2, 3]
NO_ROWS = ODD + (5, [], (), [1], [0, 0], [0, 2], [-1, 0], [0, True], [0, 1.0], ["0", "1"], [0, None], [0, 1, 1], {0: 0})
NO_MARKS = ODD + (
    5, [], (), (0,), (0, 0), (0, 0, 0, 0), (8, 0, 0), (-1, 0, 0), (0, 2, 0), (0, 0, 2), (0, -1, 0), (0, 0, -1),
    (0, True, 0), (False, 0, 0), (0, 0, 1.0), (0, 0, "1"), ("0", 0, 0), (0, None, 0), ((0, 0), 0, 0), (10 ** 50, 0, 0),
)


def by_lines(sheet, fine, mark, way):
    """The end of a straight way, by all the lines that it crosses, in the order of the parts of the way."""
    (number, x, y), (p, q) = mark, way
    lines = [(Fraction(u - x, p), 0) for u in range(fine, x + p + 1, fine)] if p else []
    lines += [(Fraction(v - y, q), 1) for v in range(fine, y + q + 1, fine)] if q else []
    for _, upward in sorted(lines):
        number = sheet.up[number] if upward else sheet.right[number]
    end = (number, (x + p) % fine, (y + q) % fine)
    return None if end[1:] == (0, 0) and sheet.corners[number] else end


class Making(Checks):

    def test_attributes(self):
        sheet = Sheet([1, 0, 2], (2, 1, 0), OwnList([1, 1, 1]))
        self.assertEqual(((1, 0, 2), (2, 1, 0), (1, 1, 1), 3), (sheet.right, sheet.up, sheet.corners, sheet.many))
        self.assertEqual([tuple] * 3, [row.__class__ for row in (sheet.right, sheet.up, sheet.corners)])
        self.assertTrue(sheet == Sheet(corners=[1, 1, 1], up=[2, 1, 0], right=[1, 0, 2]))

    def test_what_is_passed_stays_and_later_changes_change_nothing(self):
        right, up, corners = [1, 0], [0, 1], [0, 0]
        sheet = Sheet(right, up, corners)
        right.append(2)
        up[0] = 5
        corners.clear()
        self.assertEqual(((1, 0), (0, 1), (0, 0)), (sheet.right, sheet.up, sheet.corners))

    def test_one_and_400_squares(self):
        self.assertEqual(1, Sheet([0], [0], [0]).many)
        self.assertEqual(1, Sheet([0], [0], [1]).corners[0])
        self.assertEqual(400, turning(400).many)
        self.assert_raises(BadSheet, "right", lambda: turning(401))

    def test_wrong_rows(self):
        self.assert_bad(BadSheet, "right", NO_ROWS, lambda value: Sheet(value, None, None))
        self.assert_bad(BadSheet, "up", NO_ROWS + ([0, 1, 2],), lambda value: Sheet([1, 0], value, None))
        for value in NO_ROWS + ([0, 0, 0], [0, 2], [0], [True, False], [-1, 0]):
            if value not in ([0, 0], (0, 0)):
                self.assert_raises(BadSheet, "corners", lambda: Sheet([1, 0], [0, 1], value))

    def test_misfits(self):
        self.assert_raises(Misfit, "up", lambda: Sheet([0, 1], [0, 1], [0, 0]))
        self.assert_raises(Misfit, "up", lambda: Sheet([1, 0, 2], [0, 1, 2], [0, 0, 0]))
        self.assert_raises(Misfit, "up", lambda: Sheet([1, 0, 3, 2], [1, 0, 3, 2], [0, 0, 0, 0]))
        self.assert_raises(Misfit, "corners", lambda: Sheet([1, 0, 2], [2, 1, 0], [1, 1, 0]))
        self.assert_raises(Misfit, "corners", lambda: Sheet([1, 0, 2], [2, 1, 0], [0, 0, 0]))
        self.assertEqual(3, Sheet([1, 0, 2], [2, 1, 0], [1, 1, 1]).many)

    def test_every_sheet_of_three_squares(self):
        orders = [(a, b, c) for a in range(3) for b in range(3) for c in range(3) if len({a, b, c}) == 3]
        for right in orders:
            for up in orders:
                needed = set()
                for n in range(3):
                    if up[right[n]] != right[up[n]]:
                        needed |= {up[right[n]], right[up[n]]}
                for lot in range(8):
                    corners = [lot >> n & 1 for n in range(3)]
                    if reached(right, up) != {0, 1, 2}:
                        self.assert_raises(Misfit, "up", lambda: Sheet(right, up, corners))
                    elif not all(corners[n] for n in needed):
                        self.assert_raises(Misfit, "corners", lambda: Sheet(right, up, corners))
                    else:
                        self.assertEqual((right, up), (Sheet(right, up, corners).right, Sheet(right, up, corners).up))

    def test_the_first_of_several(self):
        self.assert_raises(BadSheet, "right", lambda: Sheet([0, 0], 5, 5))
        self.assert_raises(BadSheet, "up", lambda: Sheet([0, 1], [0, 0], 5))
        self.assert_raises(BadSheet, "corners", lambda: Sheet([0, 1], [0, 1], [0, 2]))
        self.assert_raises(Misfit, "up", lambda: Sheet([1, 0, 2, 4, 3], [0, 2, 1, 3, 4], [0, 0, 0, 0, 0]))

    def test_equal(self):
        sheet = Sheet([1, 0], [0, 1], [0, 0])
        self.assertTrue(sheet == Sheet((1, 0), (0, 1), (0, 0)))
        self.assertFalse(sheet != Sheet((1, 0), (0, 1), (0, 0)))
        for other in (Sheet([1, 0], [1, 0], [0, 0]), Sheet([0, 1], [1, 0], [0, 0]), Sheet([1, 0], [0, 1], [0, 1])):
            self.assertIs(False, sheet == other)
            self.assertIs(True, sheet != other)
        row, alone = [1, 2, 0], [0, 0, 0]
        self.assertIs(False, Sheet(row, [0, 1, 2], alone) == Sheet([2, 0, 1], [0, 1, 2], alone))
        self.assertIs(False, Sheet([0, 1, 2], row, alone) == Sheet([0, 1, 2], [2, 0, 1], alone))
        for value in ODD + (AlwaysEqual(), str(sheet), ((1, 0), (0, 1), (0, 0))):
            self.assertIs(False, sheet == value)


class Texts(Checks):

    def test_written_and_read(self):
        self.assertEqual("right 0 / up 0 / corners 1", str(Sheet([0], [0], [1])))
        self.assertEqual("right 1 0 2 / up 2 1 0 / corners 1 1 1", str(Sheet([1, 0, 2], [2, 1, 0], [1, 1, 1])))
        for sheet in grown_sheets(20, 60) + [turning(400), turning(399), sheet_of(Room(SLAB))]:
            self.assertTrue(Sheet.read(str(sheet)) == sheet)
            self.assertEqual(str(sheet), str(Sheet.read(text=str(sheet))))
        self.assertEqual(1, turning(2).read("right 0 / up 0 / corners 0").many)

    def test_what_is_no_string(self):
        for value in ODD + (5, [], ["right", "0"], turning(2)):
            if not isinstance(value, str):
                self.assert_bad_text(0, Sheet.read, value)

    def test_empty_and_missing_items(self):
        whole = "right 1 0 / up 0 1 / corners 0 0".split(" ")
        for many in range(1, len(whole)):
            self.assert_bad_text(many, Sheet.read, " ".join(whole[:many]))
        for at in range(len(whole) + 1):
            self.assert_bad_text(at, Sheet.read, " ".join(whole[:at] + [""] + whole[at:]))
        self.assert_bad_text(0, Sheet.read, "")

    def test_bent_items(self):
        whole = "right 1 0 / up 0 1 / corners 0 0".split(" ")
        for at, item in enumerate(whole):
            for other in ("x", "01", "-0", "+1", "1.0", "right", "up", "corners", "-1", "400", "9" * 140, "9" * 141, "1\n",
                          "\u0661", "Right", "\\"):
                if other != item:
                    self.assert_bad_text(at, Sheet.read, " ".join(whole[:at] + [other] + whole[at + 1:]))
        for at in (0, 4, 8):
            self.assert_bad_text(at, Sheet.read, " ".join(whole[:at] + ["0"] + whole[at + 1:]))
        for at in (1, 5, 6, 9, 10):
            self.assert_bad_text(at, Sheet.read, " ".join(whole[:at] + ["/"] + whole[at + 1:]))

    def test_bounds(self):
        self.assert_bad_text(5, Sheet.read, "right 1 0 / up 2 1 / corners 0 0")
        self.assert_bad_text(6, Sheet.read, "right 1 0 / up 0 2 / corners 0 0")
        self.assert_bad_text(10, Sheet.read, "right 1 0 / up 0 1 / corners 0 2")
        self.assert_bad_text(9, Sheet.read, "right 1 0 / up 0 1 / corners 2 0")
        self.assert_bad_text(1, Sheet.read, "right 400 / up 0 / corners 0")
        self.assert_bad_text(7, Sheet.read, "right 399 / up 0 / corners 0")

    def test_one_item_too_many(self):
        self.assert_bad_text(7, Sheet.read, "right 1 0 / up 0 1 0 / corners 0 0")
        self.assert_bad_text(11, Sheet.read, "right 1 0 / up 0 1 / corners 0 0 0")
        self.assert_bad_text(11, Sheet.read, "right 1 0 / up 0 1 / corners 0 0 /")
        self.assert_bad_text(6, Sheet.read, "right 1 0 / up 0 / corners 0 0")
        text = "right " + " ".join(str(n) for n in range(400))
        self.assert_bad_text(401, Sheet.read, text + " 5 / up")
        self.assert_bad_text(402, Sheet.read, text + " / right")

    def test_what_only_the_whole_shows(self):
        for text in (
            "right 0 0 / up 0 1 / corners 0 0", "right 0 1 / up 0 0 / corners 0 0", "right 0 1 / up 0 1 / corners 0 0",
            "right 1 0 2 / up 2 1 0 / corners 1 1 0", "right 5 / up 0 / corners 0", "right 1 2 / up 0 1 / corners 1 1",
        ):
            self.assert_bad_text(len(text.split(" ")) - 1, Sheet.read, text)


class SheetsOfRooms(Checks):

    def test_the_sheet_word_by_word(self):
        for room in grown_rooms(21, 80) + [Room(RING), Room(ROW), Room(SLAB), Room(*GATES), Room(*BENT)]:
            sheet = sheet_of(room)
            self.assertEqual(4 * room.many, sheet.many)
            for s, (i, j) in enumerate(room.squares):
                for c in ALL:
                    east, north = c in (0, 2), c in (0, 1)
                    beside, above = (i + 1 if east else i - 1, j), (i, j + 1 if north else j - 1)
                    if oracle.is_open(room, (i, j), beside):
                        right = 4 * room.squares.index(beside) + c
                    else:
                        right = 4 * s + {0: 1, 1: 0, 2: 3, 3: 2}[c]
                    if oracle.is_open(room, (i, j), above):
                        up = 4 * room.squares.index(above) + c
                    else:
                        up = 4 * s + {0: 2, 1: 3, 2: 0, 3: 1}[c]
                    tip = (i if east else i + 1, j if north else j + 1)
                    corner = oracle.kind(room, (i, j), tip) == "corner"
                    wanted = (right, up, int(corner))
                    self.assertEqual(wanted, tuple(row[4 * s + c] for row in (sheet.right, sheet.up, sheet.corners)))
                    self.assertEqual(int, sheet.corners[4 * s + c].__class__)

    def test_by_name_and_errors(self):
        self.assertTrue(sheet_of(room=Room(ELL)) == sheet_of(Room(ELL, (), 5)))
        self.assert_bad(BadRoom, "room", ODD + (5,), sheet_of)


class Marks(Checks):

    def test_marks_word_by_word(self):
        for room in grown_rooms(22, 40, (1, 2, 3)) + [Room(*GATES), Room(*BENT), Room(RING, (), 2)]:
            sheet, f = sheet_of(room), room.fine
            for point in points_in(room):
                marks = set()
                for i, j in oracle.owners(room, point):
                    for c in ALL:
                        number = 4 * room.squares.index((i, j)) + c
                        x = point[0] - i * f if c in (0, 2) else i * f + f - point[0]
                        y = point[1] - j * f if c in (0, 1) else j * f + f - point[1]
                        if x == f:
                            number, x = sheet.right[number], 0
                        if y == f:
                            number, y = sheet.up[number], 0
                        marks.add((number, x, y))
                self.assertEqual(tuple(sorted(marks)), marks_of(room, point))

    def test_each_mark_is_that_of_one_point(self):
        for room in grown_rooms(23, 40, (1, 2, 3)) + [Room(*GATES), Room(*BENT)]:
            left = {(n, x, y): None for n in range(4 * room.many) for x in range(room.fine) for y in range(room.fine)}
            for point in points_in(room):
                for mark in marks_of(room, list(point)):
                    self.assertIsNone(left[mark])
                    left[mark] = point
            for mark, point in left.items():
                self.assertEqual(point, point_at(room, mark))
                self.assertEqual(point, point_at(room, list(mark)))

    def test_far_out_and_fine(self):
        room = Room([(99, -99)], fine=24)
        self.assertEqual(((0, 23, 1), (1, 1, 1), (2, 23, 23), (3, 1, 23)), marks_of(room, (99 * 24 + 23, -99 * 24 + 1)))
        self.assertEqual((99 * 24 + 23, -99 * 24 + 1), point_at(room, (3, 1, 23)))
        self.assertEqual(((3, 0, 0),), marks_of(room, (2400, -98 * 24)))
        self.assertEqual((2400, -98 * 24), point_at(mark=(3, 0, 0), room=room))
        self.assertEqual(((1, 0, 7), (3, 0, 17)), marks_of(point=(2400, -99 * 24 + 7), room=room))

    def test_point_that_is_a_corner_from_some_squares(self):
        bent = Room(*BENT)
        corners = sheet_of(bent).corners
        self.assertEqual({0, 1}, {corners[number] for number, _, _ in marks_of(bent, (1, 1))})

    def test_errors(self):
        room = Room([(0, 0), (1, 0)], fine=2)
        for call in (marks_of, square_point):
            self.assert_bad(BadRoom, "room", ODD + (5,), lambda value: call(value, None))
            wrong = NO_POINTS + ((5, 0), (0, 3), (-1, 0), (10 ** 50, 0), (1, True))
            self.assert_bad(BadPoint, "point", wrong, lambda value: call(room, value))
        self.assert_bad(BadRoom, "room", ODD + (5,), lambda value: point_at(value, None))
        self.assert_bad(BadPoint, "mark", NO_MARKS, lambda value: point_at(room, value))


class Onward(Checks):

    def test_on_any_sheet(self):
        chance = random.Random(24)
        nones = 0
        for sheet in grown_sheets(25, 80):
            fine = chance.randint(1, 4)
            for _ in range(25):
                mark = (chance.randrange(sheet.many), chance.randrange(fine), chance.randrange(fine))
                way = chance.choice([(p, q) for p in range(8) for q in range(8) if gcd(p, q) == 1])
                wanted = by_lines(sheet, fine, mark, way)
                nones += wanted is None
                self.assertEqual(wanted, onward(sheet, fine, mark, way), (str(sheet), fine, mark, way))
        self.assertGreater(nones, 100)

    def test_straight_along_and_from_a_corner(self):
        sheet = Sheet([1, 0], [0, 1], [1, 0])
        self.assertEqual((1, 0, 0), onward(sheet, 1, (0, 0, 0), (1, 0)))
        self.assertIsNone(onward(sheet, 1, (1, 0, 0), (1, 0)))
        self.assertIsNone(onward(sheet, 1, (0, 0, 0), (0, 1)))
        self.assertEqual((0, 1, 0), onward(sheet, 2, (0, 0, 0), (1, 0)))
        self.assertEqual((0, 0, 1), onward(sheet, 2, [0, 0, 0], [0, 1]))
        self.assertEqual((0, 0, 1), onward(way=(0, 1), mark=(0, 0, 0), fine=2, sheet=sheet))
        self.assertEqual((0, 1, 0), onward(sheet, 2, (1, 1, 1), (2, 1)))

    def test_far_ways(self):
        sheet = turning(400)
        self.assertEqual((200, 0, 0), onward(sheet, 1, (0, 0, 0), (1000, 1)))
        self.assertEqual((199, 0, 0), onward(sheet, 1, (0, 0, 0), (999, 1000)))
        self.assertEqual((41, 16, 2), onward(sheet, 24, (0, 0, 1), (1000, 1)))

    def test_rays_are_straight_on_the_sheet(self):
        chance = random.Random(26)
        for room in grown_rooms(27, 60, (1, 2, 3)) + [Room(*GATES)]:
            sheet = sheet_of(room)
            rays = [(place, square) for place in places_of(room) for square in squares_at(room, place)]
            for place, square in chance.sample(rays, min(3, len(rays))):
                way = chance.choice(((1, 1), (-1, 2), (3, -1), (-2, -3), (5, 2), (0, 1), (-1, 0)))
                track = track_of(room, square, place, way)
                inward, _, going = stand_after(room, square, place, way, 0)
                copy = (1 if going[0] < 0 else 0) + (2 if going[1] < 0 else 0)
                first = [mark for mark in marks_of(room, place) if mark[0] // 4 == inward and (
                    (going[0] == 0 or mark[0] & 1 == copy & 1) and (going[1] == 0 or mark[0] & 2 == copy & 2))][0]
                mark, points, sizes = first, [place], (abs(way[0]), abs(way[1]))
                while True:
                    mark = onward(sheet, room.fine, mark, sizes)
                    if mark is None or mark == first:
                        break
                    points.append(point_at(room, mark))
                self.assertEqual(tuple(points), track.points[:-1] if track.end == "corner" else track.points)
                self.assertEqual(mark is None, track.end == "corner")

    def test_errors(self):
        sheet = sheet_of(Room([(0, 0), (1, 0)]))
        self.assert_bad(BadSheet, "sheet", ODD + (5, Room(ELL)), lambda value: onward(value, None, None, None))
        fines = NO_INTEGERS + (0, 25, -1, 10 ** 50)
        self.assert_bad(BadNumber, "fine", fines, lambda value: onward(sheet, value, None, None))
        self.assert_bad(BadPoint, "mark", NO_MARKS, lambda value: onward(sheet, 2, value, None))
        ways = NO_POINTS + ((0, 0), (2, 4), (-1, 1), (1, -1), (1001, 1), (1, 1001), (0, 2), (10 ** 12, 1), (1, True))
        self.assert_bad(BadWay, "way", ways, lambda value: onward(sheet, 2, (0, 0, 0), value))


class Folding(Checks):

    def test_square_point(self):
        room = Room([(i, 0) for i in range(-4, 4)], fine=3)
        self.assertEqual([0, 1, 2, 3, 2, 1] * 4 + [0],
                         [square_point(room, (x, 0))[0] for x in range(-12, 13)])
        tall = Room([(5, j) for j in range(-4, 4)], fine=3)
        self.assertEqual([0, 1, 2, 3, 2, 1] * 4 + [0], [square_point(tall, [15, y])[1] for y in range(-12, 13)])
        self.assertEqual({(3, 3), (3, 2), (3, 1), (3, 0)}, {square_point(room=tall, point=(15, y)) for y in range(-12, 13)})
        far = Room([(-99, 99)], fine=24)
        self.assertEqual((24, 24), square_point(far, (-99 * 24, 99 * 24)))
        self.assertEqual((0, 1), square_point(far, (-98 * 24, 99 * 24 + 23)))

    def test_folded_square_by_square(self):
        for room in grown_rooms(28, 40):
            f = room.fine
            for point in points_in(room):
                for i, j in oracle.owners(room, point):
                    x = point[0] - i * f if i % 2 == 0 else i * f + f - point[0]
                    y = point[1] - j * f if j % 2 == 0 else j * f + f - point[1]
                    self.assertEqual((x, y), square_point(room, point))


if __name__ == "__main__":
    unittest.main()
