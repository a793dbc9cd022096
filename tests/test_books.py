"""Leaning sheets, marks and books; words of ways; keys; what comes first; all books that come of one."""

import random
import unittest
from math import gcd
from unittest import mock

import oracle
from common import (
    BENT, BLOCK, ELL, GATES, NO_INTEGERS, NO_POINTS, ODD, RING, ROW, Checks, OwnList, grown_rooms, grown_sheets, turning,
)

from neverhit.books import (
    Book, book_of, books_from, first_on, lean_mark, lean_sheet, leant, ways_of, word_of,
)
from neverhit.errors import BadBook, BadNumber, BadPlace, BadPoint, BadRoom, BadSheet, BadWay, BadWord, Misfit, TooMany
from neverhit.places import places_of, points_in
from neverhit.rooms import Room
from neverhit.sheets import Sheet, marks_of, onward, sheet_of

FAR = 10 ** 12
NO_LETTERS = tuple(value for value in ODD if not (isinstance(value, str) and value == "a")) + (
    "A", "ab", "aa", "c", 0, 1, ["a"], ("a",), b"a")
NO_TIMES = NO_INTEGERS + (-1, FAR + 1, 10 ** 50)
TWO = sheet_of(Room([(0, 0), (1, 0)]))


def grown_books(seed, many):
    """So many books of sheets of any kind, with some lamps, wishes and posts."""
    chance = random.Random(seed)
    books = []
    while len(books) < many:
        sheet, fine = grown_sheets(chance.random(), 1)[0], chance.randint(1, 3)
        marks = [(n, x, y) for n in range(sheet.many) for x in range(fine) for y in range(fine)]
        free = [mark for mark in marks if mark[1:] != (0, 0) or sheet.corners[mark[0]] == 0]
        if len(free) < 4:
            continue
        lamps = chance.sample(free, chance.randint(1, 3))
        wishes = chance.sample([m for m in free if m not in lamps], chance.randint(0, 1))
        left = [m for m in marks if m not in lamps + wishes]
        books.append(Book(sheet, fine, lamps, wishes, chance.sample(left, chance.randint(0, min(3, len(left))))))
    return books


def seen_books(seed, many):
    """So many books of rooms with a lamp, a wish and posts, each with what it is of."""
    chance = random.Random(seed)
    found = []
    for room in grown_rooms(seed, many * 3, (1, 2, 3)):
        places = places_of(room)
        if len(places) > 1 and len(found) < many:
            lamp, wish = chance.sample(places, 2)
            points = [point for point in points_in(room) if point not in (lamp, wish)]
            posts = chance.sample(points, min(len(points), chance.randint(0, 5)))
            found.append((book_of(room, lamp, wish, posts), room, lamp, wish, posts))
    return found


class LeaningSheets(Checks):

    def test_once_by_the_words(self):
        for sheet in grown_sheets(30, 60) + [TWO, turning(5)]:
            for letter in "ab":
                right, up = oracle.leant_rows(sheet.right, sheet.up, letter)
                self.assertTrue(lean_sheet(sheet, letter) == Sheet(right, up, sheet.corners))

    def test_many_times_is_again_and_again(self):
        for sheet in grown_sheets(31, 40) + [TWO]:
            for letter in "ab":
                again = sheet
                for times in range(8):
                    self.assertTrue(lean_sheet(sheet, letter, times) == again)
                    again = lean_sheet(again, letter)
        # the squares right of one another come round in 12 steps or 1, 2, 3, 4, 6 of them, so as many leanings are none
        self.assertTrue(lean_sheet(TWO, "a", FAR) == lean_sheet(TWO, "a", FAR - 12))
        self.assertTrue(lean_sheet(sheet=TWO, letter="b", times=FAR - 1) == lean_sheet(TWO, "b", 11))

    def test_by_hand(self):
        self.assertEqual((6, 2, 4, 0, 7, 3, 5, 1), lean_sheet(TWO, "a").up)
        self.assertEqual(TWO.right, lean_sheet(TWO, "a").right)
        self.assertEqual(TWO.up, lean_sheet(TWO, "b").up)
        self.assertEqual((TWO.corners,) * 2, (lean_sheet(TWO, "a", 3).corners, lean_sheet(TWO, "b", 3).corners))
        row = turning(3)
        self.assertEqual(((1, 2, 0), (1, 2, 0)), (lean_sheet(row, "a").right, lean_sheet(row, "a").up))
        self.assertTrue(lean_sheet(row, "b") == row)

    def test_400_squares(self):
        row = turning(400)
        self.assertEqual(tuple((n + 399) % 400 for n in range(400)), lean_sheet(row, "a", 400 * 7 - 1).up)

    def test_errors(self):
        self.assert_bad(BadSheet, "sheet", ODD + (5, Room(ELL)), lambda value: lean_sheet(value, None, None))
        self.assert_bad(BadWord, "letter", NO_LETTERS, lambda value: lean_sheet(TWO, value, None))
        self.assert_bad(BadNumber, "times", NO_TIMES, lambda value: lean_sheet(TWO, "a", value))


class LeaningMarks(Checks):

    def test_once_and_many_times(self):
        for book in grown_books(32, 60):
            sheet, fine = book.sheet, book.fine
            for mark in book.lamps + book.posts:
                for letter in "ab":
                    again, leaning = mark, sheet
                    for times in range(6):
                        self.assertEqual(again, lean_mark(sheet, fine, mark, letter, times))
                        again = oracle.leant_mark(leaning.right, leaning.up, fine, again, letter)
                        leaning = lean_sheet(leaning, letter)

    def test_by_hand(self):
        ell = sheet_of(Room(ELL, fine=2))
        self.assertEqual((9, 1, 1), lean_mark(ell, 2, (1, 0, 1), "a"))
        self.assertEqual((0, 1, 1), lean_mark(ell, 2, [1, 0, 1], "a", 5))
        self.assertEqual((1, 0, 1), lean_mark(ell, 2, (1, 0, 1), "a", 0))
        self.assertEqual((1, 0, 1), lean_mark(times=3, letter="b", mark=(1, 0, 1), fine=2, sheet=ell))
        self.assertEqual((2, 3, 3), lean_mark(turning(3), 4, (0, 2, 3), "a"))
        self.assertEqual((0, 2, 1), lean_mark(turning(3), 4, (0, 2, 3), "b"))

    def test_very_many_times(self):
        row = turning(7)
        for times in (FAR, FAR - 1, 999999999989):
            over = 2 - times * 3
            self.assertEqual(((5 + over // 5) % 7, over % 5, 3), lean_mark(row, 5, (5, 2, 3), "a", times))
            self.assertEqual((5, 2, (3 - times * 2) % 5), lean_mark(row, 5, (5, 2, 3), "b", times))

    def test_errors_in_their_order(self):
        self.assert_bad(BadSheet, "sheet", ODD, lambda value: lean_mark(value, None, None, None, None))
        fines = NO_INTEGERS + (0, 25, -1)
        self.assert_bad(BadNumber, "fine", fines, lambda value: lean_mark(TWO, value, None, None, None))
        marks = NO_POINTS + ((8, 0, 0), (0, 2, 0), (0, 0, -1), (0, 0, True), (-1, 0, 0), (0, 0, 0, 0))
        for value in marks:
            if value != (0, 0, 0):
                self.assert_raises(BadPoint, "mark", lambda: lean_mark(TWO, 2, value, None, None))
        self.assert_bad(BadWord, "letter", NO_LETTERS, lambda value: lean_mark(TWO, 2, (0, 0, 0), value, None))
        self.assert_bad(BadNumber, "times", NO_TIMES, lambda value: lean_mark(TWO, 2, (0, 0, 0), "b", value))


class Words(Checks):

    def test_by_hand(self):
        self.assertEqual((((("a", 2), ("b", 3))), "east"), word_of((7, 3)))
        self.assertEqual(((("b", 2),), "east"), word_of([1, 2]))
        self.assertEqual(((), "north"), word_of((0, 1)))
        self.assertEqual(((), "east"), word_of(way=(1, 0)))
        self.assertEqual(((("a", 1),), "north"), word_of((1, 1)))
        self.assertEqual(((("a", FAR),), "north"), word_of((FAR, 1)))
        self.assertEqual(((("b", FAR),), "east"), word_of((1, FAR)))
        self.assertEqual(((("a", 1), ("b", FAR - 1)), "east"), word_of((FAR, FAR - 1)))

    def test_as_euclid_takes_the_lesser_from_the_greater(self):
        for p in range(25):
            for q in range(25):
                if gcd(p, q) != 1:
                    continue
                word, side = word_of((p, q))
                letters, u, v = "", p, q
                while u and v:
                    letter = "a" if u >= v else "b"
                    while (u >= v) if letter == "a" else (v >= u):
                        letters += letter
                        u, v = (u - v, v) if letter == "a" else (u, v - u)
                        if u == 0 or v == 0:
                            break
                self.assertEqual(letters, "".join(letter * times for letter, times in word))
                self.assertEqual(side, {(1, 0): "east", (0, 1): "north"}[u, v])
                self.assertTrue(all(one[0] != other[0] for one, other in zip(word, word[1:])))

    def test_ways_of_words(self):
        self.assertEqual(((7, 3), (2, 1)), ways_of([("a", 2), ("b", 3)]))
        self.assertEqual(((1, 0), (0, 1)), ways_of(()))
        self.assertEqual(((1, 0), (0, 1)), ways_of([]))
        self.assertEqual(((1, 0), (5, 1)), ways_of([["a", 2], ("a", 3)]))
        self.assertEqual(((1, FAR), (0, 1)), ways_of(word=(("b", FAR),)))
        self.assertEqual(((1, 200), (0, 1)), ways_of([("b", 1)] * 200))

    def test_there_and_back(self):
        chance = random.Random(33)
        for _ in range(200):
            word = [(chance.choice("ab"), chance.choice((1, 1, 2, 9))) for _ in range(chance.randint(0, 9))]
            for way, wanted in zip(ways_of(word), ((1, 0), (0, 1))):
                p, q = way
                for letter, times in word:
                    p, q = (p - times * q, q) if letter == "a" else (p, q - times * p)
                self.assertEqual(wanted, (p, q))
        for _ in range(200):
            p, q = chance.randint(0, FAR), chance.randint(0, FAR)
            if gcd(p, q) == 1:
                word, side = word_of((p, q))
                self.assertEqual((p, q), ways_of(word)[0 if side == "east" else 1])

    def test_numbers_at_the_bound(self):
        self.assertEqual(((1, 1), (FAR - 1, FAR)), ways_of([("b", 1), ("a", FAR - 1)]))
        for word in ([("b", 1), ("a", FAR)], [("a", FAR), ("b", 1)], [("a", FAR), ("a", 1)], [("a", 1), ("b", FAR)] * 100):
            self.assert_raises(Misfit, "word", lambda: ways_of(word))

    def test_wrong_ways_and_words(self):
        ways = NO_POINTS + ((0, 0), (2, 4), (-1, 1), (1, -1), (0, -1), (-1, 0), (FAR + 1, 1), (1, True))
        self.assert_bad(BadWay, "way", ways, word_of)
        good = ("a", 1)
        pairs = ODD + (
            5, (), ("a",), ("a", 1, 1), ("a", 0), ("a", -1), ("a", FAR + 1), ("a", True), ("A", 1), ("ab", 1), ("", 1),
            ("a", "1"), (1, "a"), (None, 1), ("a", None), ("a", 1.0), "a1", ("b", [1]), (["a"], 1), {"a": 1, "b": 2},
        )
        for pair in pairs:
            self.assert_raises(BadWord, "word", lambda: ways_of([good, pair]))
            self.assert_raises(BadWord, "word", lambda: ways_of((pair,)))
        for value in ODD:
            if value != []:
                self.assert_raises(BadWord, "word", lambda: ways_of(value))
        self.assert_raises(BadWord, "word", lambda: ways_of([good] * 201))
        self.assert_raises(BadWord, "word", lambda: ways_of(("a", 1)))

    def test_what_is_passed_stays(self):
        word = [["a", 2], ["b", 3]]
        ways_of(word)
        self.assertEqual([["a", 2], ["b", 3]], word)


class MakingBooks(Checks):

    def test_attributes(self):
        book = Book(TWO, 2, [[4, 1, 0], (0, 0, 1)], OwnList([(7, 1, 1), [2, 0, 1]]), ((1, 1, 1), [0, 0, 0]))
        self.assertTrue(book.sheet == TWO)
        self.assertEqual((2, ((4, 1, 0), (0, 0, 1))), (book.fine, book.lamps))
        self.assertEqual((((2, 0, 1), (7, 1, 1)), ((0, 0, 0), (1, 1, 1))), (book.wishes, book.posts))
        self.assertEqual([tuple] * 5, [value.__class__ for value in (
            book.lamps, book.lamps[0], book.wishes, book.wishes[1], book.posts)])
        other = Book(posts=[(0, 0, 0), (1, 1, 1)], wishes=book.wishes, lamps=book.lamps, fine=2, sheet=TWO)
        self.assertTrue(book == other)

    def test_what_is_passed_stays_and_later_changes_change_nothing(self):
        lamps, wishes, posts = [[4, 1, 0]], [[7, 1, 1], [2, 0, 1]], [[1, 1, 1], [0, 0, 0]]
        book = Book(TWO, 2, lamps, wishes, posts)
        self.assertEqual([[7, 1, 1], [2, 0, 1]], wishes)
        self.assertEqual([[1, 1, 1], [0, 0, 0]], posts)
        told = book.key
        lamps[0][0] = 3
        wishes.clear()
        posts.append(5)
        self.assertEqual((((4, 1, 0),), ((2, 0, 1), (7, 1, 1)), told), (book.lamps, book.wishes, book.key))

    def test_keys_by_the_words(self):
        for book in grown_books(34, 80):
            sheet = book.sheet
            self.assertEqual(
                oracle.key(sheet.right, sheet.up, sheet.corners, book.lamps, book.wishes, book.posts), book.key)
        for book, *_ in seen_books(35, 30):
            sheet = book.sheet
            self.assertEqual(
                oracle.key(sheet.right, sheet.up, sheet.corners, book.lamps, book.wishes, book.posts), book.key)

    def test_a_key_by_hand(self):
        row = Book(turning(3), 2, [(1, 0, 1), (0, 1, 1)], [(0, 0, 1)], [(2, 1, 1), (1, 1, 0)])
        self.assertEqual(
            ((1, 2, 0), (0, 1, 2), (0, 0, 0), ((0, 0, 1), (2, 1, 1)), ((2, 0, 1),), ((0, 1, 0), (1, 1, 1))), row.key)

    def test_numbered_right_ahead_of_up(self):
        sheet = Sheet([1, 0, 3, 2], [2, 3, 0, 1], [0, 0, 0, 0])
        book = Book(sheet, 1, [(3, 0, 0)], [], [])
        self.assertEqual(((1, 0, 3, 2), (2, 3, 0, 1)), book.key[:2])
        line = Sheet([0, 1, 2], [2, 0, 1], [0, 0, 0])
        self.assertEqual(((0, 1, 2), (1, 2, 0)), Book(line, 1, [(1, 0, 0)], [], []).key[:2])

    def test_a_key_is_that_of_its_own_book(self):
        for book in grown_books(36, 40):
            right, up, corners, *marks = book.key
            again = Book(Sheet(right, up, corners), book.fine, *marks)
            self.assertTrue(again == book)
            self.assertEqual(book.key, again.key)

    def test_equal_exactly_if_fine_and_key_are(self):
        book = Book(turning(4), 1, [(0, 0, 0)], [(1, 0, 0)], [])
        self.assertTrue(book == Book(turning(4), 1, [(2, 0, 0)], [(3, 0, 0)], []))
        self.assertFalse(book != Book(turning(4), 1, [(2, 0, 0)], [(3, 0, 0)], []))
        self.assertFalse(book == Book(turning(4), 2, [(0, 0, 0)], [(1, 0, 0)], []))
        self.assertFalse(book == Book(turning(4), 1, [(0, 0, 0)], [(2, 0, 0)], []))
        self.assertFalse(book == Book(turning(4), 1, [(0, 0, 0)], [], [(1, 0, 0)]))
        lamps = [(0, 0, 0), (1, 0, 0)]
        self.assertFalse(Book(turning(4), 1, lamps, [], []) == Book(turning(4), 1, lamps[::-1], [], []))
        for value in ODD + (book.key, book.sheet):
            self.assertIs(False, book == value)
            self.assertIs(True, book != value)

    def test_numbers_of_marks(self):
        sheet = turning(400)
        marks = [(n, x, y) for n in range(400) for x in (0, 1) for y in (0, 1)]
        book = Book(sheet, 2, marks[:64], marks[64:128], marks[128:1128])
        self.assertEqual((64, 64, 1000), (len(book.lamps), len(book.wishes), len(book.posts)))
        self.assert_raises(BadBook, "lamps", lambda: Book(sheet, 2, marks[:65], [], []))
        self.assert_raises(BadBook, "lamps", lambda: Book(sheet, 2, [], [], []))
        self.assert_raises(BadBook, "wishes", lambda: Book(sheet, 2, marks[:1], marks[1:66], []))
        self.assert_raises(BadBook, "posts", lambda: Book(sheet, 2, marks[:1], [], marks[1:1002]))

    def test_errors(self):
        good = [(0, 0, 1)]
        self.assert_bad(BadSheet, "sheet", ODD + (5, Room(ELL)), lambda value: Book(value, None, None, None, None))
        self.assert_bad(BadNumber, "fine", NO_INTEGERS + (0, 25), lambda value: Book(TWO, value, None, None, None))
        lots = ODD + (
            5, (0, 0, 1), [(0, 0)], [(0, 0, 1, 0)], [(8, 0, 1)], [(-1, 0, 1)], [(0, 2, 0)], [(0, 0, 2)], [(0, 0, True)],
            [(0, 0, 1), (0, 0, 1)], [(0, 0, 1), [0, 0, 1]], [(1, 0, 1), None], {(0, 0, 1): 1}, "001",
        )
        for value in lots:
            self.assert_raises(BadBook, "lamps", lambda: Book(TWO, 2, value, None, None))
            if value != []:
                self.assert_raises(BadBook, "wishes", lambda: Book(TWO, 2, [(1, 1, 1)], value, None))
                self.assert_raises(BadBook, "posts", lambda: Book(TWO, 2, [(1, 1, 1)], [], value))
        # the lower left point of the square 0 is a corner
        self.assert_raises(BadBook, "lamps", lambda: Book(TWO, 2, good + [(0, 0, 0)], [], []))
        self.assert_raises(BadBook, "wishes", lambda: Book(TWO, 2, good, [(0, 0, 0)], []))
        self.assertEqual(((0, 0, 0),), Book(TWO, 2, good, [], [(0, 0, 0)]).posts)

    def test_misfits_and_the_first_of_several(self):
        one, other = (0, 0, 1), (3, 1, 0)
        self.assert_raises(Misfit, "wishes", lambda: Book(TWO, 2, [one], [other, list(one)], [one]))
        self.assert_raises(Misfit, "posts", lambda: Book(TWO, 2, [one], [other], [[0, 0, 1]]))
        self.assert_raises(Misfit, "posts", lambda: Book(TWO, 2, [one], [other], [other]))
        self.assert_raises(BadBook, "posts", lambda: Book(TWO, 2, [one], [one], 5))
        self.assert_raises(BadBook, "lamps", lambda: Book(TWO, 2, 5, 5, 5))
        self.assert_raises(BadBook, "wishes", lambda: Book(TWO, 2, [one], 5, 5))


class BooksOfRooms(Checks):

    def test_marks_of_all(self):
        for book, room, lamp, wish, posts in seen_books(37, 40):
            self.assertTrue(book.sheet == sheet_of(room))
            self.assertEqual(room.fine, book.fine)
            self.assertEqual((marks_of(room, lamp), marks_of(room, wish)), (book.lamps, book.wishes))
            self.assertEqual(tuple(sorted(mark for post in posts for mark in marks_of(room, post))), book.posts)

    def test_lists_and_names(self):
        room = Room(BLOCK, fine=2)
        book = book_of(room, (1, 1), (3, 3), [(2, 2), (0, 0)])
        self.assertTrue(book == book_of(posts=((2, 2), [0, 0]), wish=[3, 3], lamp=[1, 1], room=room))

    def test_posts_at_points_that_are_corners_from_some_squares(self):
        book = book_of(Room(BENT[0], BENT[1], 2), (1, 0), (1, 1), [(2, 2)])
        self.assertEqual({0, 1}, {book.sheet.corners[number] for number, _, _ in book.posts})

    def test_errors(self):
        room = Room(BLOCK, fine=2)
        self.assert_bad(BadRoom, "room", ODD + (5,), lambda value: book_of(value, None, None, None))
        places = NO_POINTS + ((0, 0), (9, 9), (4, 4))
        self.assert_bad(BadPlace, "lamp", places, lambda value: book_of(room, value, None, None))
        self.assert_bad(BadPlace, "wish", places, lambda value: book_of(room, (1, 1), value, None))
        posts = ODD + (5, (1, 1), [(9, 9)], [(2, 2), [2, 2]], [(2, 2), None], [(x, y) for x in range(9) for y in range(9)])
        for value in posts:
            if value != []:
                self.assert_raises(BadPlace, "posts", lambda: book_of(room, (1, 1), (1, 1), value))
        self.assert_raises(Misfit, "wish", lambda: book_of(room, (1, 1), [1, 1], [(1, 1)]))
        self.assert_raises(Misfit, "posts", lambda: book_of(room, (1, 1), (1, 2), [(2, 2), (1, 1)]))
        self.assert_raises(Misfit, "posts", lambda: book_of(room, (1, 1), (1, 2), [(2, 2), [1, 2]]))


class LeaningBooks(Checks):

    def test_as_a_whole(self):
        for book in grown_books(38, 60):
            for letter in "ab":
                for times in (0, 1, 2, 5):
                    other = leant(book, letter, times)
                    self.assertTrue(other.sheet == lean_sheet(book.sheet, letter, times))
                    led = [[lean_mark(book.sheet, book.fine, mark, letter, times) for mark in marks]
                           for marks in (book.lamps, book.wishes, book.posts)]
                    self.assertEqual(tuple(led[0]), other.lamps)
                    self.assertEqual((sorted(led[1]), sorted(led[2])), (list(other.wishes), list(other.posts)))
                    self.assertEqual(book.fine, other.fine)

    def test_keys_once_by_the_words(self):
        for book in grown_books(39, 60):
            for letter in "ab":
                self.assertEqual(oracle.leant_key(book.key, book.fine, letter), leant(book, letter).key)

    def test_straight_rays_go_east_or_north_in_the_leant_book(self):
        chance = random.Random(40)
        for book in grown_books(41, 60):
            way = chance.choice([(p, q) for p in range(6) for q in range(6) if gcd(p, q) == 1])
            word, side = word_of(way)
            other = book
            for letter, times in word:
                other = leant(other, letter, times)
            for number, lamp in enumerate(book.lamps):
                mark, told, steps = lamp, None, 0
                while told is None:
                    mark = onward(book.sheet, book.fine, mark, way)
                    steps += 1
                    if mark is None:
                        told = "corner"
                    elif mark in book.posts:
                        told = "post"
                    elif mark in book.wishes:
                        told = "wish"
                    elif mark == lamp:
                        told = "round"
                self.assertEqual((told, steps), first_on(other, number, side))

    def test_errors(self):
        book = Book(TWO, 2, [(0, 0, 1)], [], [])
        self.assert_bad(BadBook, "book", ODD + (5, book.key, TWO), lambda value: leant(value, None, None))
        self.assert_bad(BadWord, "letter", NO_LETTERS, lambda value: leant(book, value, None))
        self.assert_bad(BadNumber, "times", NO_TIMES, lambda value: leant(book, "b", value))
        self.assertTrue(leant(times=FAR, letter="a", book=book) == leant(book, "a", FAR % 24))


class First(Checks):

    def test_by_the_words(self):
        words = set()
        for book in grown_books(42, 120) + [told[0] for told in seen_books(43, 30)]:
            for number in range(len(book.lamps)):
                for side in ("east", "north"):
                    told = first_on(book, number, side)
                    self.assertEqual(oracle.first_thing(book.key, book.fine, book.key[3][number], side), told)
                    words.add(told[0])
        self.assertEqual({"corner", "post", "wish", "round"}, words)

    def test_at_one_mark_they_count_in_their_order(self):
        row = Sheet([1, 2, 0], [0, 1, 2], [0, 1, 0])
        self.assertEqual(("corner", 2), first_on(Book(row, 2, [(0, 0, 0)], [], [(1, 0, 0)]), 0, "east"))
        self.assertEqual(("post", 1), first_on(Book(row, 2, [(0, 0, 0)], [], [(1, 0, 0), (0, 1, 0)]), 0, "east"))
        self.assertEqual(("round", 6), first_on(Book(row, 2, [(0, 0, 1)], [], [(1, 0, 0)]), lamp=0, side="east"))
        self.assertEqual(("round", 2), first_on(Book(row, 2, [(0, 0, 1)], [], []), 0, "north"))
        self.assertEqual(("wish", 1), first_on(Book(row, 2, [(0, 0, 1)], [(0, 0, 0)], []), 0, "north"))

    def test_other_lamps_are_passed(self):
        book = Book(turning(3), 1, [(0, 0, 0), (1, 0, 0)], [(2, 0, 0)], [])
        self.assertEqual([("wish", 2), ("wish", 1)], [first_on(book, lamp, "east") for lamp in (0, 1)])
        self.assertEqual([("round", 1)] * 2, [first_on(book, lamp, "north") for lamp in (0, 1)])

    def test_errors(self):
        book = Book(turning(3), 1, [(0, 0, 0), (1, 0, 0)], [(2, 0, 0)], [])
        self.assert_bad(BadBook, "book", ODD + (5,), lambda value: first_on(value, None, None))
        self.assert_bad(BadNumber, "lamp", NO_INTEGERS + (2, -1, 10 ** 50), lambda value: first_on(book, value, None))
        self.assert_bad(BadWord, "side", ODD + (0, "East", "west", ["east"]), lambda value: first_on(book, 0, value))


class AllBooks(Checks):

    def test_small_ones_by_hand(self):
        alone = Book(Sheet([0], [0], [0]), 1, [(0, 0, 0)], [], [])
        self.assertEqual((alone.key,), books_from(alone))
        # of the row of two squares come the column, and the two squares aslant
        row = Book(turning(2), 1, [(0, 0, 0)], [], [])
        rows = sorted([((1, 0), (0, 1)), ((0, 1), (1, 0)), ((1, 0), (1, 0))])
        self.assertEqual(rows, [told[:2] for told in books_from(book=row)])

    def test_closed_both_ways_ascending_and_with_its_own(self):
        for book in grown_books(44, 25) + [told[0] for told in seen_books(45, 10)]:
            try:
                keys = books_from(book)
            except TooMany:
                continue
            self.assertIs(tuple, keys.__class__)
            self.assertEqual(sorted(set(keys)), list(keys))
            self.assertIn(book.key, keys)
            for letter in "ab":
                self.assertEqual(set(keys), {oracle.leant_key(told, book.fine, letter) for told in keys})

    def test_no_fewer_come_of_any_of_them(self):
        for book in grown_books(46, 30):
            if book.sheet.many < 5 and book.fine < 3:
                keys = books_from(leant(book, "a", 3))
                self.assertEqual(keys, books_from(leant(leant(book, "b"), "a")))
                self.assertEqual(keys, books_from(book))

    def test_too_many(self):
        room = Room(RING, fine=3)
        self.assert_raises(TooMany, "books", 5000, lambda: books_from(book_of(room, (1, 1), (3, 1), [(2, 2)])))

    def test_just_as_many_as_may_be(self):
        book = book_of(Room(ELL), (1, 0), (0, 1), [])
        with mock.patch("neverhit.books.MOST_BOOKS", 12):
            self.assertEqual(12, len(books_from(book)))
        with mock.patch("neverhit.books.MOST_BOOKS", 11):
            self.assert_raises(TooMany, "books", 11, lambda: books_from(book))

    def test_rows_of_many_squares(self):
        # of a row of n squares as many come as n, n more by a part p of it for each prime p that divides n
        for many, wanted in ((23, 24), (76, 120), (400, 720)):
            self.assertEqual(wanted, len(books_from(Book(turning(many), 1, [(0, 0, 0)], [], []))))

    def test_errors(self):
        self.assert_bad(BadBook, "book", ODD + (5, TWO), books_from)


class Samples(Checks):

    def test_rows_and_gates(self):
        for room in (Room(ROW), Room(*GATES), Room(BLOCK)):
            lamp, wish = places_of(room)[:2]
            self.assertIn(book_of(room, lamp, wish, []).key, books_from(book_of(room, lamp, wish, [])))


if __name__ == "__main__":
    unittest.main()
