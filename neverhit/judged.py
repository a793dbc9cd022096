"""Lit or dark: whether any ray at all comes from a lamp to a wish, past some posts."""

from neverhit.books import book_of, books_met, shown_by, way_before
from neverhit.papers import Denial, Paper


class Lit(Paper):
    """A ray that comes to the wish: the square in which it begins, its way, and by how many steps."""

    def __init__(self, square, way, steps):
        super().__init__("lit", square, way, steps)
        self.square, self.way, self.steps = self.parts


class Dark(Denial):
    """The keys of a closed list of books, none of which shows the wish."""

    def __init__(self, books):
        super().__init__("dark", books)
        self.books = self.parts[0]


def judged(room, lamp, wish, posts=()):
    """Whether the wish is lit, and what shows it."""
    lit, found = looked_through(book_of(room, lamp, wish, posts))
    return Dark(sorted(found)) if lit is None else lit


def looked_through(book):
    """The Lit of a ray that comes to the wish in a room's book, None if there is none, and the keys that were met."""
    found, origins = books_met(book.key, book.fine, until_shown=True)
    shown = shown_by(found[-1], book.fine)
    if shown is None:
        return None, found
    number, side, parts = shown
    return _lit_from(book.lamps[number], way_before(_word_behind(origins), side), parts), found


def _word_behind(origins):
    """The word by which the last of some keys was met, as books_met tells the origins of all."""
    word = []
    origin = origins[-1]
    while origin is not None:
        at, letter = origin
        word.append((letter, 1))
        origin = origins[at]
    return word[::-1]


def _lit_from(mark, way, steps):
    """The Lit of a ray that goes straight, by a way with numbers from 0 on, from a mark of a room's sheet."""
    number = mark[0]
    p, q = way
    return Lit(number // 4, (-p if number & 1 else p, -q if number & 2 else q), steps)
