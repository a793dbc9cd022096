"""Rooms moved, turned, mirrored, made finer; sides shut and opened; and where their points come to."""

from neverhit.checks import is_integer, is_point, is_within
from neverhit.errors import BadNumber, BadPoint, BadRoom, Misfit
from neverhit.places import need_point
from neverhit.rooms import MOST_FINE, Room, hang_together, is_square, need_room, side_told


def moved(room, by):
    """The room with all squares moved by a point, told in sides."""
    _need_moving(room, by)
    return _with_squares(room, [(i + by[0], j + by[1]) for i, j in room.squares], "by")


def turned(room, quarters):
    """The room turned about the point (0, 0) by so many quarters to the left."""
    _need_turning(room, quarters)
    squares = list(room.squares)
    for _ in range(quarters % 4):
        squares = [(-j - 1, i) for i, j in squares]
    return _with_squares(room, squares, "room")


def mirrored(room):
    """The room, x with the other sign."""
    need_room(room, "room")
    return _with_squares(room, [(-i - 1, j) for i, j in room.squares], "room")


def finer(room, times):
    """The same room with so many times as many parts."""
    _need_times(room, times)
    if room.fine * times > MOST_FINE:
        raise Misfit("times")
    return Room(room.squares, room.shut, room.fine * times)


def shut_up(room, side):
    """The room with one side more that is shut."""
    wanted = _inner_side(room, side)
    shut = room.shut + (wanted,)
    if wanted in room.shut or not hang_together(room.squares, shut):
        raise Misfit("side")
    return Room(room.squares, shut, room.fine)


def opened(room, side):
    """The room with one side less that is shut."""
    wanted = _inner_side(room, side)
    if wanted not in room.shut:
        raise Misfit("side")
    return Room(room.squares, [other for other in room.shut if other != wanted], room.fine)


def moved_point(room, by, point):
    """Where a point of the room is in the moved one."""
    _need_moving(room, by)
    need_point(room, point)
    # the changed room is made here, and below, for what it raises
    moved(room, by)
    return (point[0] + by[0] * room.fine, point[1] + by[1] * room.fine)


def turned_point(room, quarters, point):
    """Where a point of the room is in the turned one."""
    _need_turning(room, quarters)
    need_point(room, point)
    turned(room, quarters)
    x, y = point
    for _ in range(quarters % 4):
        x, y = -y, x
    return (x, y)


def mirrored_point(room, point):
    """Where a point of the room is in the mirrored one."""
    need_room(room, "room")
    need_point(room, point)
    mirrored(room)
    return (-point[0], point[1])


def finer_point(room, times, point):
    """Where a point of the room is in the finer one."""
    _need_times(room, times)
    need_point(room, point)
    finer(room, times)
    return (point[0] * times, point[1] * times)


def _need_moving(room, by):
    """Nothing, if both are of the kind that moving wants."""
    need_room(room, "room")
    if not is_point(by):
        raise BadPoint("by")


def _need_turning(room, quarters):
    """Nothing, if both are of the kind that turning wants."""
    need_room(room, "room")
    if not is_integer(quarters):
        raise BadNumber("quarters")


def _need_times(room, times):
    """Nothing, if both are of the kind that making finer wants."""
    need_room(room, "room")
    if not is_within(times, 1, MOST_FINE):
        raise BadNumber("times")


def _inner_side(room, side):
    """The side between two squares of the room that a value tells."""
    need_room(room, "room")
    wanted = side_told(side, room.squares)
    if wanted is None:
        raise BadRoom("side")
    return wanted


def _with_squares(room, squares, part):
    """The room with other squares in the place of its own, one for one; its shut sides go with them."""
    if not all([is_square(square) for square in squares]):
        raise Misfit(part)
    led = {}
    for number, square in enumerate(room.squares):
        led[square] = squares[number]
    return Room(squares, [(led[one], led[other]) for one, other in room.shut], room.fine)
