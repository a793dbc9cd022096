"""Pictures of rooms: plans, points with lamp, wish and posts, tracks of rays."""

from neverhit.errors import Misfit
from neverhit.places import is_corner, need_place, points_in, posts_told
from neverhit.rays import track_of
from neverhit.rooms import need_room, walls_of


def plan_of(room):
    """The plan of a room: its squares, its walls, the points of the grid."""
    need_room(room, "room")
    # everything is told in half sides, in which the middle of two points is their sum
    signs = {}
    for i, j in room.squares:
        signs[(2 * i + 1, 2 * j + 1)] = "."
        for a, b in ((0, 0), (1, 0), (0, 1), (1, 1)):
            signs[(2 * i + 2 * a, 2 * j + 2 * b)] = "o"
    for i, j in _corners_of(room):
        signs[(2 * i, 2 * j)] = "+"
    for (i, j), (k, m) in walls_of(room):
        signs[(i + k, j + m)] = "|" if i == k else "-"
    return _rows_of(room, 2, signs)


def picture_of(room, lamp, wish, posts=()):
    """The point picture of a room, with a lamp, a wish, both perhaps None, and posts."""
    need_room(room, "room")
    for part, place in (("lamp", lamp), ("wish", wish)):
        if place is not None:
            need_place(room, place, part)
    points = posts_told(room, posts)
    ends = [tuple(place) for place in (lamp, wish) if place is not None]
    if len(set(ends)) < len(ends):
        raise Misfit("wish")
    if any([end in points for end in ends]):
        raise Misfit("posts")
    signs = _point_signs(room)
    for point in points:
        signs[point] = "P"
    for sign, place in (("L", lamp), ("W", wish)):
        if place is not None:
            signs[tuple(place)] = sign
    return _rows_of(room, room.fine, signs)


def picture_of_track(room, square, place, way):
    """The point picture of a ray."""
    track = track_of(room, square, place, way)
    signs = _point_signs(room)
    for point in track.points:
        signs[point] = "*"
    # a corner from one square may be passed from another one: so these two come last
    if track.end == "corner":
        signs[track.points[-1]] = "x"
    signs[tuple(place)] = "o"
    return _rows_of(room, room.fine, signs)


def _corners_of(room):
    """The points of the grid, told in sides, at which some square of the room has a corner."""
    corners = []
    for square, (i, j) in enumerate(room.squares):
        corners.extend([(i + tip % 2, j + tip // 2) for tip in range(4) if is_corner(room, square, tip)])
    return corners


def _point_signs(room):
    """The sign of each point of the room, nothing standing there."""
    signs = {}
    for point in points_in(room):
        signs[point] = "."
    fine = room.fine
    for (i, j), (k, m) in walls_of(room):
        for part in range(fine + 1):
            signs[(i * fine + (k - i) * part, j * fine + (m - j) * part)] = "#"
    for i, j in _corners_of(room):
        signs[(i * fine, j * fine)] = "+"
    return signs


def _rows_of(room, parts, signs):
    """The rows of a picture of the box of a room, each side of which has so many parts, the uppermost one first."""
    west, east = min([i for i, _ in room.squares]) * parts, max([i for i, _ in room.squares]) * parts + parts
    south, north = min([j for _, j in room.squares]) * parts, max([j for _, j in room.squares]) * parts + parts
    return tuple([
        "".join([signs.get((x, y), " ") for x in range(west, east + 1)]) for y in range(north, south - 1, -1)
    ])
