"""The check of papers that tell lit or dark."""

from math import gcd

from neverhit.bands import passed_on_way
from neverhit.books import LETTERS, Book, book_of, key_leant, shown_by
from neverhit.checks import is_integer, is_point, is_row
from neverhit.errors import BadBook, BadSheet, Misfit
from neverhit.judged import Dark, Lit
from neverhit.places import posts_told, squares_at
from neverhit.sheets import Sheet


def shows_judged(room, lamp, wish, posts, value):
    """Whether any value is a right Lit or a right Dark."""
    book = book_of(room, lamp, wish, posts)
    if isinstance(value, Lit):
        return shows_lit(room, lamp, wish, posts_told(room, posts), value.parts)
    if isinstance(value, Dark):
        return _shows_dark(book, value.books)
    return False


def shows_lit(room, lamp, wish, posts, parts):
    """Whether a square, a way and steps, any values, are those of a right Lit; all else is as it must be."""
    square, way, steps = parts
    if not is_integer(square) or square not in squares_at(room, lamp):
        return False
    if not is_point(way) or gcd(way[0], way[1]) != 1 or not is_integer(steps):
        return False
    wanted = tuple(wish)
    met, _ = passed_on_way(room, square, lamp, way, posts + (wanted,))
    for step, point in met:
        if point != wanted or step == steps:
            return point == wanted and step == steps
    return False


def _shows_dark(book, value):
    """Whether a value is a closed list of unlike keys that has the key of a book, and shows no wish."""
    if not is_row(value) or not all([_is_key(key, book.fine) for key in value]):
        return False
    listed = {}
    for key in value:
        listed[key] = True
    if len(listed) < len(value) or book.key not in listed:
        return False
    for key in value:
        if shown_by(key, book.fine) is not None:
            return False
        if not all([key_leant(key, book.fine, letter) in listed for letter in LETTERS]):
            return False
    return True


def _is_key(value, fine):
    """Whether a value is the key of a book that is so fine."""
    if not is_row(value) or len(value) != 6:
        return False
    right, up, corners, lamps, wishes, posts = value
    try:
        book = Book(Sheet(right, up, corners), fine, lamps, wishes, posts)
    except (BadSheet, BadBook, Misfit):
        return False
    return value == book.key
