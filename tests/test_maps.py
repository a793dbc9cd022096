"""Maps: what a lamp sees, the table of all places, dark pairs, lamps for wishes."""

import random
import unittest
from unittest import mock

import oracle
from common import BENT, BLOCK, ELL, GATES, NO_POINTS, ODD, RING, SLAB, Checks, OwnList, grown_rooms, grown_sheets

from neverhit.books import Book, books_from, books_met, key_turned, lean_mark, numbered_anew, shown_by
from neverhit.errors import BadPlace, BadRoom, TooMany
from neverhit.judged import judged
from neverhit.maps import (
    _names_led, _names_seen, _pass_names, _points_seen, dark_from, dark_pairs, lamps_for, lit_from, see_table,
)
from neverhit.nearest import rays_within
from neverhit.places import places_of
from neverhit.rooms import Room
from neverhit.sheets import Sheet, marks_of, onward, sheet_of

LIKE_W = [(0, 0), (0, 1), (1, 1), (1, 2), (2, 2)]
LIKE_U = [(0, 0), (0, 1), (1, 1), (1, 2), (2, 1)]
# shut sides make pockets, from which not all is seen
POCKETS = [
    Room([(0, 0), (0, 1), (1, 0), (1, 1)], [((0, 0), (1, 0))]),
    Room([(i, j) for i in range(3) for j in range(2)], [((0, 0), (0, 1)), ((2, 0), (2, 1))]),
    Room(LIKE_W), Room(LIKE_U), Room(*BENT), Room(*GATES),
]
HALL = Room([(n, 0) for n in range(3)], fine=3)


def small_rooms():
    """Rooms with few places, some with pairs that do not see one another."""
    rooms = [room for room in grown_rooms(100, 60, (1, 1, 2)) if room.many < 6 and 1 < len(places_of(room)) < 13]
    return rooms[:16] + POCKETS + [Room(ELL), Room(BLOCK), Room([(0, 0)], fine=3)]


class Tables(Checks):

    def test_as_judged_tells_of_each_pair(self):
        signs = {}
        for room in small_rooms():
            places = places_of(room)
            table = see_table(room)
            self.assertEqual([len(places)] * len(places), [len(row) for row in table])
            self.assertIs(tuple, table.__class__)
            for one, row in zip(places, table, strict=True):
                for other, sign in zip(places, row):
                    wanted = "." if one == other else "+" if judged(room, one, other) else "-"
                    self.assertEqual(wanted, sign, (str(room), one, other))
                    signs[sign] = signs.get(sign, 0) + 1
        self.assertGreater(signs["-"], 3)
        self.assertGreater(signs["+"], 100)

    def test_alike_both_ways(self):
        for room in small_rooms() + [HALL, Room(SLAB), Room(LIKE_W, fine=2)]:
            try:
                table = see_table(room)
            except TooMany:
                continue
            self.assertEqual(["".join(row[at] for row in table) for at in range(len(table))], list(table))

    def test_what_is_near_is_seen(self):
        table = see_table(HALL)
        places = places_of(HALL)
        self.assertEqual(36, len(places))
        for at, lamp in enumerate(places[::5]):
            for other, wish in enumerate(places):
                if wish != lamp and rays_within(HALL, lamp, wish, (), 25):
                    self.assertEqual("+", table[5 * at][other])

    def test_by_hand(self):
        self.assertEqual((".+", "+."), see_table(Room(ELL)))
        self.assertEqual((".-", "-."), see_table(room=Room(LIKE_W)))
        self.assertEqual((), see_table(Room([(0, 0)])))
        self.assertEqual((".+", "+."), see_table(Room([(0, 0), (1, 0)])))


class FromALamp(Checks):

    def test_lit_and_dark_as_the_table_tells(self):
        for room in small_rooms():
            places = places_of(room)
            for lamp, row in zip(places, see_table(room)):
                lit = tuple(place for place, sign in zip(places, row) if sign == "+")
                dark = tuple(place for place, sign in zip(places, row) if sign == "-")
                self.assertEqual((lit, dark), (lit_from(room, lamp), dark_from(room, list(lamp))))

    def test_by_hand(self):
        self.assertEqual((((1, 0),), ()), (lit_from(Room(ELL), (0, 1)), dark_from(Room(ELL), (0, 1))))
        self.assertEqual(((), ((2, 3),)), (lit_from(lamp=[0, 1], room=Room(LIKE_W)), dark_from(Room(LIKE_W), [0, 1])))

    def test_one_dark_place_among_many(self):
        for squares, one, other in ((LIKE_W, (0, 2), (4, 6)), (LIKE_U, (0, 2), (4, 2))):
            room = Room(squares, fine=2)
            for lamp, wish in ((one, other), (other, one)):
                self.assertEqual((wish,), dark_from(room, lamp))
                self.assertEqual(tuple(p for p in places_of(room) if p not in (one, other)), lit_from(room, lamp))

    def test_errors(self):
        for call in (lit_from, dark_from):
            self.assert_bad(BadRoom, "room", ODD + (5,), lambda value: call(value, None))
            places = NO_POINTS + ((0, 0), (9, 9), (1, 1))
            self.assert_bad(BadPlace, "lamp", places, lambda value: call(Room(ELL), value))
            large = Room([(0, 0), (1, 0)], fine=4)
            self.assert_raises(BadPlace, "lamp", lambda: call(large, (0, 0)))


class Pairs(Checks):

    def test_as_the_table_tells(self):
        for room in small_rooms():
            places = places_of(room)
            wanted = [(places[n], places[m]) for n, row in enumerate(see_table(room))
                      for m, sign in enumerate(row) if n < m and sign == "-"]
            self.assertEqual(tuple(wanted), dark_pairs(room))

    def test_by_hand(self):
        self.assertEqual((((0, 1), (2, 3)),), dark_pairs(Room(LIKE_W)))
        self.assertEqual((((0, 1), (2, 1)),), dark_pairs(room=Room(LIKE_U)))
        self.assertEqual((), dark_pairs(Room(ELL)))
        self.assertEqual((), dark_pairs(Room([(0, 0)])))

    def test_errors(self):
        for call in (dark_pairs, see_table):
            self.assert_bad(BadRoom, "room", ODD + (5,), call)


class Lamps(Checks):

    def test_as_the_table_tells(self):
        for room in small_rooms():
            places = places_of(room)
            table = see_table(room)
            for wishes in ([], places[:1], places[-2:], places, places[:1] * 3):
                wanted = [place for n, place in enumerate(places)
                          if all(table[n][places.index(wish)] in "+." for wish in wishes)]
                self.assertEqual(tuple(wanted), lamps_for(room, wishes))
                self.assertEqual(tuple(wanted), lamps_for(wishes=OwnList([list(wish) for wish in wishes]), room=room))

    def test_by_hand(self):
        dark = Room(LIKE_W)
        self.assertEqual(((2, 3),), lamps_for(dark, [(2, 3)]))
        self.assertEqual(((0, 1), (2, 3)), lamps_for(dark, ()))
        self.assertEqual((), lamps_for(dark, [(0, 1), (2, 3)]))
        self.assertEqual(((0, 1), (1, 0)), lamps_for(Room(ELL), ((0, 1), (1, 0))))

    def test_errors(self):
        self.assert_bad(BadRoom, "room", ODD + (5,), lambda value: lamps_for(value, None))
        for value in ODD + (5, (0, 1), [(1, 1)], [(0, 1), (0, 0)], [(0, 1), None], [(0, 1.0)], [(9, 9)], "01"):
            if value != []:
                self.assert_raises(BadPlace, "wishes", lambda: lamps_for(Room(ELL), value))
        wishes = [[0, 1]]
        lamps_for(Room(ELL), wishes)
        self.assertEqual([[0, 1]], wishes)


class Names(Checks):

    def test_names_go_with_their_marks(self):
        """In each leaning of a book a name is told where lean_mark leads its mark, by the new numbers."""
        for sheet in grown_sheets(101, 60):
            for fine in (1, 2, 3):
                free = [(n, x, y) for n in range(sheet.many) for x in range(fine) for y in range(fine)
                        if (x, y) != (0, 0) or sheet.corners[n] == 0]
                if not free:
                    continue
                key = Book(sheet, fine, free[-1:], [], []).key
                told = Sheet(*key[:3])
                names = [[(n, x, y) for n in range(sheet.many)] for x in range(fine) for y in range(fine)]
                for letter in "ab":
                    turned, order = key_turned(key, fine, letter)
                    led = _names_led(names, key, fine, letter, order)
                    for row in names:
                        for mark in row:
                            number, x, y = lean_mark(told, fine, mark, letter)
                            self.assertEqual(mark, led[x * fine + y][order.index(number)])
                    self.assertEqual(oracle.leant_key(key, fine, letter), turned)

    def test_names_that_are_passed(self):
        """They are those of all marks up to a corner, or to the lamp's own mark."""
        for sheet in grown_sheets(104, 60):
            for fine in (1, 2, 3):
                names = [[(n, x, y) for n in range(sheet.many)] for x in range(fine) for y in range(fine)]
                for own in [mark for row in names for mark in row if mark[1:] != (0, 0) or not sheet.corners[mark[0]]]:
                    key = (sheet.right, sheet.up, sheet.corners, (own,), (), ())
                    for side, way in (("east", (1, 0)), ("north", (0, 1))):
                        wanted, mark = [], onward(sheet, fine, own, way)
                        while mark is not None and mark not in wanted:
                            wanted.append(mark)
                            mark = onward(sheet, fine, mark, way)
                        passed = {}
                        _pass_names(key, fine, names, own, side, passed)
                        self.assertEqual(wanted, list(passed))

    def test_names_of_the_lamp_are_of_its_point(self):
        for room in (Room(BLOCK, fine=3), HALL, Room([(0, 0)], fine=5)):
            for lamp in places_of(room):
                for at in range(len(marks_of(room, lamp))):
                    def own(key, fine, names):
                        number, x, y = key[3][at]
                        return [names[x * fine + y][number]]
                    with mock.patch("neverhit.maps._names_seen", own):
                        self.assertEqual([lamp], list(_points_seen(room, lamp)))

    def test_what_is_seen_of_any_sheet(self):
        """Marks are seen exactly if, told as wishes, they are shown by some book."""
        chance = random.Random(102)
        for sheet in grown_sheets(103, 40):
            for fine in (1, 2):
                free = [(n, x, y) for n in range(sheet.many) for x in range(fine) for y in range(fine)
                        if (x, y) != (0, 0) or sheet.corners[n] == 0]
                if len(free) < 2 or sheet.many > 4:
                    continue
                lamp, *wishes = chance.sample(free, min(4, len(free)))
                key = Book(sheet, fine, [lamp], [], []).key
                order, _ = numbered_anew(sheet.right, sheet.up, lamp[0])
                names = [[(n * fine + x) * fine + y for n in order] for x in range(fine) for y in range(fine)]
                seen = _names_seen(key, fine, names)
                for n, x, y in wishes:
                    found, _ = books_met(Book(sheet, fine, [lamp], [(n, x, y)], []).key, fine, True)
                    shown = shown_by(found[-1], fine) is not None
                    self.assertIs(shown, (n * fine + x) * fine + y in seen)


class TooManyOfThem(Checks):

    def calls(self, room, lamp):
        """All calls of maps, for a room and a lamp."""
        return (lambda: lit_from(room, lamp), lambda: dark_from(room, lamp), lambda: dark_pairs(room),
                lambda: lamps_for(room, [lamp]), lambda: see_table(room))

    def test_places(self):
        fits = Room([(0, 0), (1, 0)], [], 4)
        self.assertEqual(41, len(places_of(fits)))
        for call in self.calls(fits, (1, 1)):
            self.assert_raises(TooMany, "places", 40, call)
        self.assert_raises(TooMany, "places", 40, lambda: lamps_for(fits, ()))
        with mock.patch("neverhit.maps.MOST_PLACES", 41):
            self.assertEqual(40, len(lit_from(fits, (1, 1))))

    def test_places_ahead_of_books(self):
        large = Room(RING, fine=3)
        self.assertRaises(TooMany, lambda: books_from(Book(sheet_of(large), 3, marks_of(large, (1, 1)), (), ())))
        for call in self.calls(large, (1, 1)):
            self.assert_raises(TooMany, "places", 40, call)

    def test_books(self):
        bent = Room(LIKE_W, fine=2)
        counts = {}
        for place in places_of(bent):
            try:
                counts[place] = len(books_from(Book(sheet_of(bent), 2, marks_of(bent, place), (), ())))
            except TooMany:
                counts[place] = None
        few = [place for place in counts if counts[place] is not None]
        many = [place for place in counts if counts[place] is None]
        for call in self.calls(bent, many[0]):
            self.assert_raises(TooMany, "books", 5000, call)
        # of one lamp alone only its own books are asked
        self.assertEqual(len(counts) - 1, len(lit_from(bent, few[0])) + len(dark_from(bent, few[0])))
        self.assert_raises(TooMany, "books", 5000, lambda: lamps_for(bent, ()))

    def test_just_as_many_books_as_may_be(self):
        for room in (Room(LIKE_W), Room(BLOCK, fine=2)):
            lamp = places_of(room)[0]
            many = len(books_from(Book(sheet_of(room), room.fine, marks_of(room, lamp), (), ())))
            for most in (many, many - 1):
                with mock.patch("neverhit.maps.MOST_BOOKS", most), mock.patch("neverhit.books.MOST_BOOKS", most):
                    if most == many:
                        self.assertEqual(len(places_of(room)) - 1, len(lit_from(room, lamp) + dark_from(room, lamp)))
                    else:
                        self.assert_raises(TooMany, "books", most, lambda: lit_from(room, lamp))


if __name__ == "__main__":
    unittest.main()
