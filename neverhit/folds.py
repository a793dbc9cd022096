"""Folds: a room laid, square by square, upon another one, so that rays come down to rays."""

from neverhit.checks import is_point, is_row, is_way
from neverhit.errors import BadPaper, BadPoint, BadWay, Misfit
from neverhit.papers import Denial, Paper, fixed
from neverhit.places import need_place, need_square, squares_at
from neverhit.rooms import need_room


class Fold(Paper):
    """The rows of a fold: for each square of the room a square of the ground and a copy."""

    def __init__(self, rows):
        super().__init__("fold", rows)
        self.rows = self.parts[0]


class NoFold(Denial):
    """There is no fold."""

    def __init__(self):
        super().__init__("nofold")


def folds_of(room, ground):
    """The rows of all folds of the room upon the ground, ascending."""
    _need_rooms(room, ground)
    if room.fine != ground.fine:
        raise Misfit("ground")
    told = [_rows_from(room, ground, (square, copy)) for square in range(ground.many) for copy in range(4)]
    return tuple(sorted([rows for rows in told if rows is not None]))


def folds_onto(room, ground):
    """The fold of the least rows, or that there is none."""
    folds = folds_of(room, ground)
    return Fold(folds[0]) if folds else NoFold()


def point_down(room, ground, rows, square, point):
    """Where a point, seen from a square, comes down to."""
    laid = _need_fold(room, ground, rows)
    need_square(room, square)
    _need_any_point(point)
    if square not in squares_at(room, point):
        raise Misfit("point")
    return _led_between(room, square, ground, laid[square][0], laid[square][1], point)


def points_up(room, ground, rows, point):
    """All points of the room that come down, from one of their squares at least, to a point of the ground."""
    laid = _need_fold(room, ground, rows)
    _need_any_point(point)
    owners = squares_at(ground, point)
    if not owners:
        raise Misfit("point")
    # what a copy exchanges it exchanges back
    points = [
        _led_between(ground, below, room, square, copy, point)
        for square, (below, copy) in enumerate(laid) if below in owners
    ]
    return tuple(sorted(set(points)))


def ray_down(room, ground, rows, square, place, way):
    """The square, the point and the way to which a square, a place of it and a way come down."""
    laid = _need_fold(room, ground, rows)
    need_square(room, square)
    need_place(room, place, "place")
    if not is_way(way):
        raise BadWay("way")
    if square not in squares_at(room, place):
        raise Misfit("place")
    below, copy = laid[square]
    p, q = way
    led = (-p if copy & 1 else p, -q if copy & 2 else q)
    return (below, _led_between(room, square, ground, below, copy, place), led)


def _need_rooms(room, ground):
    """Nothing, if both are Rooms."""
    need_room(room, "room")
    need_room(ground, "ground")


def _need_any_point(point):
    """Nothing, if this is a point, of whichever room."""
    if not is_point(point):
        raise BadPoint("point")


def _need_fold(room, ground, rows):
    """The rows of a fold of the room upon the ground that a value tells."""
    _need_rooms(room, ground)
    if room.fine != ground.fine or not is_row(rows) or not all([is_point(pair) for pair in rows]):
        raise BadPaper("rows")
    told = fixed(rows)
    if told not in folds_of(room, ground):
        raise BadPaper("rows")
    return told


def _rows_from(room, ground, first):
    """The rows of the fold that lays the first square so; None if there is none."""
    rows = [None] * room.many
    rows[0] = first
    found = [0]
    at = 0
    while at < len(found):
        square = found[at]
        for side, other in enumerate(room.beyond[square]):
            below = ground.beyond[rows[square][0]][_side_turned(side, rows[square][1])]
            if other is None and below is not None:
                return None
            if other is None:
                continue
            led = _led_over(rows[square], side, below)
            if rows[other] is None:
                rows[other] = led
                found.append(other)
            elif rows[other] != led:
                return None
        at += 1
    return tuple(rows)


def _side_turned(side, copy):
    """The side at which a side lies in a copy."""
    # east and west are the even numbers, north and south the odd ones, and 2 leads from each to the other
    if copy & (1 if side % 2 == 0 else 2):
        return side ^ 2
    return side


def _led_over(pair, side, below):
    """How the square beyond an open side is laid.

    below is the number of the ground's square beyond the turned side; None at a wall.
    """
    if below is None:
        return (pair[0], pair[1] ^ (1 if side % 2 == 0 else 2))
    return (below, pair[1])


def _led_between(room, square, other_room, other, copy, point):
    """The point of another room's square that is there, in a copy, what a point is in a square; both equally fine."""
    fine = room.fine
    x, y = point[0] - room.squares[square][0] * fine, point[1] - room.squares[square][1] * fine
    i, j = other_room.squares[other]
    return (i * fine + (fine - x if copy & 1 else x), j * fine + (fine - y if copy & 2 else y))
