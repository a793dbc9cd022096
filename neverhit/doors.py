"""Doors: sides to be shut, or opened, by which a wish becomes dark, or lit."""

from itertools import combinations

from neverhit.checks import is_row, is_within
from neverhit.errors import BadNumber, BadRoom, TooMany
from neverhit.judged import judged
from neverhit.papers import Denial, Paper
from neverhit.places import is_place, need_apart, need_seeing, posts_told
from neverhit.rooms import Room, hang_together, open_sides, side_told

MOST_ASKED = 5
MOST_CHANGED = 3
WORDS = ("apart", "hidden", "lit", "dark")


class Doors(Paper):
    """The first lot of open sides that, shut, make the wish dark."""

    def __init__(self, sides):
        super().__init__("doors", sides)
        self.sides = self.parts[0]


class NoDoors(Denial):
    """No lot of so few open sides makes the wish dark."""

    def __init__(self, most):
        super().__init__("nodoors", most)
        self.most = self.parts[0]


class Opened(Paper):
    """The first lot of shut sides that, opened, make the wish lit, and a ray that shows it."""

    def __init__(self, sides, square, way, steps):
        super().__init__("opened", sides, square, way, steps)
        self.sides, self.square, self.way, self.steps = self.parts


class StillDark(Denial):
    """No lot of so few shut sides makes the wish lit."""

    def __init__(self, most):
        super().__init__("stilldark", most)
        self.most = self.parts[0]


def inner_sides(room):
    """All sides between two squares of the room, open ones and shut ones, ascending."""
    return tuple(sorted(open_sides(room) + room.shut))


def door_word(room, lamp, wish, posts, sides):
    """The word of a lot: whether it is apart, hidden, lit or dark."""
    points = _need_seen(room, lamp, wish, posts)
    lot = _lot_told(room, sides)
    need_apart(lamp, wish, points)
    return _word_of(room, lamp, wish, points, lot)


def door_table(room, lamp, wish, posts):
    """For each inner side, ascending, the word of the lot of this side alone."""
    points = _need_seen(room, lamp, wish, posts)
    need_apart(lamp, wish, points)
    return tuple([(side, _word_of(room, lamp, wish, points, (side,))) for side in inner_sides(room)])


def all_doors(room, lamp, wish, posts):
    """How many of all lots are apart, hidden, lit, dark."""
    points = _need_seen(room, lamp, wish, posts)
    need_apart(lamp, wish, points)
    inner = inner_sides(room)
    if len(inner) > MOST_ASKED:
        raise TooMany("sides", MOST_ASKED)
    words = [_word_of(room, lamp, wish, points, lot) for lot in lots_of(inner, len(inner))]
    return tuple([words.count(word) for word in WORDS])


def darkened(room, lamp, wish, posts, most):
    """The first lot of at most so many open sides that make the wish dark, if they are shut."""
    points = _need_few(room, lamp, wish, posts, most)
    for lot in lots_of(open_sides(room), most):
        if _word_of(room, lamp, wish, points, lot) == "dark":
            return Doors(lot)
    return NoDoors(most)


def lightened(room, lamp, wish, posts, most):
    """The first lot of at most so many shut sides that make the wish lit, if they are opened, and a ray."""
    points = _need_few(room, lamp, wish, posts, most)
    for lot in lots_of(room.shut, most):
        # no room falls apart by sides that are opened
        paper = _paper_of(room_by(room, lot), lamp, wish, points)
        if paper is not None and paper.word == "lit":
            return Opened(lot, *paper.parts)
    return StillDark(most)


def lots_of(values, most):
    """All lots of at most so many of some values, those of fewer first, each in the order of the values."""
    rows = list(values)
    lots = []
    for many in range(most + 1):
        lots.extend(list(combinations(rows, many)))
    return lots


def room_by(room, lot):
    """The room that comes if a lot of its inner sides is changed; None if it falls apart."""
    shut = [side for side in inner_sides(room) if (side in room.shut) != (side in lot)]
    return Room(room.squares, shut, room.fine) if hang_together(room.squares, shut) else None


def _need_seen(room, lamp, wish, posts):
    """The posts that a value tells, ascending, if all four are of the kind that judged wants."""
    need_seeing(room, lamp, wish)
    return posts_told(room, posts)


def _need_few(room, lamp, wish, posts, most):
    """The posts, ascending, if all five are of the kind that is wanted, and fit together."""
    points = _need_seen(room, lamp, wish, posts)
    if not is_within(most, 0, MOST_CHANGED):
        raise BadNumber("most")
    need_apart(lamp, wish, points)
    return points


def _lot_told(room, sides):
    """The lot of inner sides that a value tells."""
    if not is_row(sides):
        raise BadRoom("sides")
    lot = [side_told(side, room.squares) for side in sides]
    if None in lot or len(set(lot)) < len(lot):
        raise BadRoom("sides")
    return lot


def _paper_of(room, lamp, wish, posts):
    """What judged tells of a room that came; None if lamp or wish is hidden there."""
    if not (is_place(room, lamp) and is_place(room, wish)):
        return None
    return judged(room, lamp, wish, posts)


def _word_of(room, lamp, wish, posts, lot):
    """The word of a lot."""
    changed = room_by(room, lot)
    if changed is None:
        return "apart"
    paper = _paper_of(changed, lamp, wish, posts)
    return "hidden" if paper is None else paper.word
