"""Makers: all rooms of so many squares, rooms that are alike, lots of sides that can be shut together."""

from neverhit.checks import is_within
from neverhit.doors import lots_of
from neverhit.errors import BadNumber
from neverhit.maps import dark_pairs
from neverhit.papers import Denial, Paper
from neverhit.rooms import STEPS, Room, hang_together, need_room, open_sides

MOST_MADE = 6

# all ways to lay a room, in their order: whether it is mirrored, and then by how many quarters it is turned
LAYINGS = (
    (False, 0), (False, 1), (False, 2), (False, 3), (True, 0), (True, 1), (True, 2), (True, 3),
)


class Alike(Paper):
    """How a room becomes another one: mirrored or not, turned by so many quarters, then moved."""

    def __init__(self, is_mirrored, quarters, by):
        super().__init__("alike", is_mirrored, quarters, by)
        self.is_mirrored, self.quarters, self.by = self.parts


class Unlike(Denial):
    """A room does not become another one."""

    def __init__(self):
        super().__init__("unlike")


def rooms_of(many):
    """All rooms of so many squares without shut sides, fine 1, of alike ones the least one, ascending."""
    if not is_within(many, 1, MOST_MADE):
        raise BadNumber("many")
    made = [((0, 0),)]
    for _ in range(many - 1):
        made = sorted(set([_least(squares + (square,), ())[0] for squares in made for square in _beside(squares)]))
    return tuple([Room(squares) for squares in made])


def alike(one, other):
    """How the one room becomes the other one, the first way that fits, if they are alike."""
    need_room(one, "one")
    need_room(other, "other")
    wanted, away = _moved_home(other.squares, other.shut)
    for is_mirrored, quarters in LAYINGS:
        squares, shut = _laid(one.squares, one.shut, is_mirrored, quarters)
        home, by = _moved_home(squares, shut)
        if home == wanted and one.fine == other.fine:
            return Alike(is_mirrored, quarters, (by[0] - away[0], by[1] - away[1]))
    return Unlike()


def least_room(room):
    """The room alike to a room whose squares, and then whose shut sides, are least."""
    need_room(room, "room")
    squares, shut = _least(room.squares, room.shut)
    return Room(squares, shut, room.fine)


def dark_rooms(many):
    """Those of rooms_of that have dark pairs, each with these."""
    told = [(room, dark_pairs(room)) for room in rooms_of(many)]
    return tuple([(room, pairs) for room, pairs in told if pairs])


def shut_lots(room):
    """All lots of open sides that can be shut together, all squares hanging together still, ascending."""
    sides = open_sides(room)
    # to hang together so many squares need one side less than they are
    lots = lots_of(sides, len(sides) - room.many + 1)
    return tuple(sorted([lot for lot in lots if hang_together(room.squares, room.shut + lot)]))


def _beside(squares):
    """The squares of the plane that are neighbours of some squares, but none of them."""
    told = [(i + a, j + b) for i, j in squares for a, b in STEPS]
    return [square for square in told if square not in squares]


def _square_laid(square, is_mirrored, quarters):
    """Where a square comes if the plane is mirrored, or not, and then turned by so many quarters to the left."""
    i, j = square
    if is_mirrored:
        i = -i - 1
    for _ in range(quarters):
        i, j = -j - 1, i
    return (i, j)


def _laid(squares, shut, is_mirrored, quarters):
    """Where squares and shut sides come if they are mirrored, or not, and turned: these need not be near 0."""
    led = {}
    for square in squares:
        led[square] = _square_laid(square, is_mirrored, quarters)
    return [led[square] for square in squares], [(led[one], led[other]) for one, other in shut]


def _moved_home(squares, shut):
    """Squares and shut sides, ascending, moved so that the least numbers are 0, and by what they were moved."""
    a, b = -min([i for i, _ in squares]), -min([j for _, j in squares])
    home = tuple(sorted([(i + a, j + b) for i, j in squares]))
    sides = [tuple(sorted([(i + a, j + b), (k + a, m + b)])) for (i, j), (k, m) in shut]
    return (home, tuple(sorted(sides))), (a, b)


def _least(squares, shut):
    """The least of all squares and shut sides as which some can be laid, their least numbers being 0."""
    told = []
    for is_mirrored, quarters in LAYINGS:
        laid, sides = _laid(squares, shut, is_mirrored, quarters)
        told.append(_moved_home(laid, sides)[0])
    return min(told)
