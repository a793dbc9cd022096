"""Fans, corners, points and places of rooms."""

from neverhit.checks import is_point, is_row, is_within
from neverhit.errors import BadNumber, BadPlace, BadPoint, Misfit
from neverhit.rooms import need_room

MOST_POSTS = 60

# For each tip the numbers of the two sides that meet there, the west or east one first.
SIDES_AT = ((2, 3), (0, 3), (2, 1), (0, 1))


def need_square(room, square):
    """Nothing, if this is the number of one of the room's squares."""
    if not is_within(square, 0, room.many - 1):
        raise BadNumber("square")


def need_point(room, point):
    """Nothing, if this is a point of the room."""
    if not is_point(point) or not _owners(room, point):
        raise BadPoint("point")


def need_place(room, place, part):
    """Nothing, if the value of this part is a place of the room."""
    if not is_place(room, place):
        raise BadPlace(part)


def posts_told(room, posts):
    """The posts that a value tells, ascending."""
    return points_told(room, posts, MOST_POSTS, "posts")


def points_told(room, value, most, part):
    """The unlike points of the room, at most so many, that the value of this part tells, ascending."""
    if not is_row(value) or len(value) > most:
        raise BadPlace(part)
    if not all([is_point(point) and bool(_owners(room, point)) for point in value]):
        raise BadPlace(part)
    points = sorted(set([tuple(point) for point in value]))
    if len(points) < len(value):
        raise BadPlace(part)
    return tuple(points)


def need_seeing(room, lamp, wish):
    """Nothing, if the lamp and the wish are places of the room."""
    need_room(room, "room")
    need_place(room, lamp, "lamp")
    need_place(room, wish, "wish")


def need_apart(lamp, wish, posts):
    """Nothing, if lamp and wish are unlike places, and none of the posts is one of them."""
    if tuple(lamp) == tuple(wish):
        raise Misfit("wish")
    if tuple(lamp) in posts or tuple(wish) in posts:
        raise Misfit("posts")


def has_corner(room, square, point):
    """Whether a point of a square is a corner from it."""
    i, j = room.squares[square]
    x, y = point[0] - i * room.fine, point[1] - j * room.fine
    if x not in (0, room.fine) or y not in (0, room.fine):
        return False
    return is_corner(room, square, (1 if x > 0 else 0) + (2 if y > 0 else 0))


def fan_of(room, square, tip):
    """The numbers of the squares of the fan of a square at one of its tips, ascending."""
    _need_tip(room, square, tip)
    return tuple(sorted([number for number, _ in _fan_at(room, square, tip)]))


def is_corner(room, square, tip):
    """Whether a square has a corner at one of its tips."""
    _need_tip(room, square, tip)
    fan = _fan_at(room, square, tip)
    if len(fan) == 4:
        # each open side that ends there leads from one of the four to the next, and back
        return sum([len(_next_in_fan(room, number, turn)) for number, turn in fan]) < 8
    return len(fan) != 2


def points_in(room):
    """All points of the room, ascending."""
    need_room(room, "room")
    fine = room.fine
    points = []
    for i, j in room.squares:
        points.extend([(i * fine + x, j * fine + y) for x in range(fine + 1) for y in range(fine + 1)])
    return tuple(sorted(set(points)))


def places_of(room):
    """All places of the room, ascending."""
    return tuple([point for point in points_in(room) if is_place(room, point)])


def is_place(room, value):
    """Whether any value is a place of the room."""
    need_room(room, "room")
    if not is_point(value):
        return False
    owners = _owners(room, value)
    return bool(owners) and not any([has_corner(room, square, value) for square in owners])


def squares_at(room, point):
    """The ascending numbers of the squares that have a point."""
    need_room(room, "room")
    if not is_point(point):
        raise BadPoint("point")
    return tuple(_owners(room, point))


def _owners(room, point):
    """The ascending numbers of the squares that have a point."""
    x, y = point
    fine = room.fine
    return [
        number for number, (i, j) in enumerate(room.squares)
        if i * fine <= x <= (i + 1) * fine and j * fine <= y <= (j + 1) * fine
    ]


def _need_tip(room, square, tip):
    """Nothing, if all three tell a tip of a square of a room."""
    need_room(room, "room")
    need_square(room, square)
    if not is_within(tip, 0, 3):
        raise BadNumber("tip")


def _next_in_fan(room, square, tip):
    """The squares to which open sides lead that end at this tip, each with the tip that the point is to it."""
    across, along = SIDES_AT[tip]
    pairs = [(room.beyond[square][across], tip ^ 1), (room.beyond[square][along], tip ^ 2)]
    return [(number, turn) for number, turn in pairs if number is not None]


def _fan_at(room, square, tip):
    """The squares of a fan, each with the tip that the point is to it."""
    fan = [(square, tip)]
    at = 0
    while at < len(fan):
        number, turn = fan[at]
        fresh = [pair for pair in _next_in_fan(room, number, turn) if pair not in fan]
        fan.extend(fresh)
        at += 1
    return fan
