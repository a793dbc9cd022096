"""Rays: straight lines from a place, thrown back at walls, as the sheet of the room shows them."""

from neverhit.checks import is_way, is_within
from neverhit.errors import BadNumber, BadWay, Misfit
from neverhit.papers import Paper
from neverhit.places import need_place, need_square, posts_told, squares_at
from neverhit.rooms import need_room
from neverhit.sheets import is_end, mark_behind, mark_from, mark_seen, passed_by, point_seen, sheet_of

MOST_STEPS = 20000


class Track(Paper):
    """The points of the track of a ray, and whether it ends at a corner or comes round."""

    def __init__(self, points, end):
        super().__init__("track", points, end)
        self.points, self.end = self.parts


def track_of(room, square, place, way):
    """The track of a ray."""
    need_ray(room, square, place, way)
    need_having(room, square, place)
    sheet, first, sizes = beginning_of(room, square, place, way)
    points = [point_seen(room, first)]
    mark = _next_mark(sheet, room.fine, first, sizes)
    while mark != first and not is_end(sheet, mark):
        points.append(point_seen(room, mark))
        mark = _next_mark(sheet, room.fine, mark, sizes)
    if mark == first:
        return Track(points, "round")
    points.append(point_seen(room, mark))
    return Track(points, "corner")


def met_first(room, square, place, way, posts):
    """The step and the point at which a ray is first at one of some posts; None if it never is."""
    need_ray(room, square, place, way)
    wanted = posts_told(room, posts)
    track = track_of(room, square, place, way)
    points = track.points[:-1] if track.end == "corner" else track.points
    for step, point in enumerate(points):
        if step > 0 and point in wanted:
            return (step, point)
    return None


def bounces_of(room, square, place, way, steps):
    """The letters of the walls that throw a ray back in turn, up to so many steps."""
    _need_steps_of(room, square, place, way, steps)
    sheet, mark, sizes = beginning_of(room, square, place, way)
    letters = []
    for _ in range(steps):
        mark, met = step_on(sheet, room.fine, mark, sizes)
        letters.append(met)
        if is_end(sheet, mark):
            break
    return "".join(letters)


def stand_after(room, square, place, way, steps):
    """How a ray stands behind so many steps: into which square it is about to go, where, by which way."""
    _need_steps_of(room, square, place, way, steps)
    sheet, first, sizes = beginning_of(room, square, place, way)
    return _stand_of(room, _mark_after(sheet, room.fine, first, sizes, steps), sizes)


def turned_back(room, square, place, way, steps):
    """How the opposite ray stands that begins behind so many steps, and goes back."""
    _need_steps_of(room, square, place, way, steps)
    sheet, first, sizes = beginning_of(room, square, place, way)
    mark = _mark_after(sheet, room.fine, first, sizes, steps)
    return _stand_of(room, _mark_turned(sheet, room.fine, mark, sizes), sizes)


def length_of(way, steps):
    """The squared length of so many steps by a way."""
    if not is_way(way):
        raise BadWay("way")
    _need_steps(steps)
    p, q = way
    return (p * p + q * q) * steps * steps


def need_ray(room, square, place, way):
    """Nothing, if all four are of the kind that a ray wants."""
    need_room(room, "room")
    need_square(room, square)
    need_place(room, place, "place")
    if not is_way(way):
        raise BadWay("way")


def need_having(room, square, place):
    """Nothing, if the square has the place."""
    if square not in squares_at(room, place):
        raise Misfit("place")


def beginning_of(room, square, place, way):
    """The sheet on which a ray goes, the mark at which it begins there, and its way's numbers without signs."""
    sheet = sheet_of(room)
    # in this copy the way leads right and up; a ray that goes straight along stays right of, or above, its line
    copy = (1 if way[0] < 0 else 0) + (2 if way[1] < 0 else 0)
    return sheet, mark_seen(room, sheet, square, copy, place), (abs(way[0]), abs(way[1]))


def step_on(sheet, fine, mark, sizes):
    """The mark one step on, and the letters of the walls that throw a ray back by this step."""
    passed = passed_by(sheet, fine, mark, sizes)
    end = mark_behind(fine, mark, sizes, passed)
    if is_end(sheet, end):
        # the two lines that meet at the corner throw nothing back; a straight way crosses no others by a step
        return end, _letters_of(passed[:-2])
    return end, _letters_of(passed)


def _need_steps(steps):
    """Nothing, if this is a number of steps."""
    if not is_within(steps, 0, MOST_STEPS):
        raise BadNumber("steps")


def _need_steps_of(room, square, place, way, steps):
    """Nothing, if all five tell so many steps of a ray."""
    need_ray(room, square, place, way)
    _need_steps(steps)
    need_having(room, square, place)


def _next_mark(sheet, fine, mark, sizes):
    """The mark one step on."""
    return mark_behind(fine, mark, sizes, passed_by(sheet, fine, mark, sizes))


def _mark_after(sheet, fine, first, sizes, steps):
    """The mark so many steps on."""
    mark = first
    for _ in range(steps):
        mark = _next_mark(sheet, fine, mark, sizes)
        if is_end(sheet, mark):
            raise Misfit("steps")
    return mark


def _mark_turned(sheet, fine, mark, sizes):
    """The mark from which, in another copy, it is right and up that a ray goes back."""
    number, x, y = mark
    if sizes[0] > 0:
        number, x = number ^ 1, fine - x
    if sizes[1] > 0:
        number, y = number ^ 2, fine - y
    return mark_from(sheet, fine, number, x, y)


def _stand_of(room, mark, sizes):
    """How a ray stands that is at a mark, about to go right and up by so many parts."""
    number = mark[0]
    p, q = sizes
    return (number // 4, point_seen(room, mark), (-p if number & 1 else p, -q if number & 2 else q))


def _letters_of(passed):
    """The letters of the walls at which one comes from a copy of a square to another copy of it."""
    letters = []
    for number, other in zip(passed, passed[1:]):
        if number // 4 == other // 4:
            letters.append(_letter_between(number, other))
    return "".join(letters)


def _letter_between(number, other):
    """The letter of the wall between two copies of a square, the one that is left first."""
    if (number ^ other) == 1:
        return "W" if number & 1 else "E"
    return "S" if number & 2 else "N"
