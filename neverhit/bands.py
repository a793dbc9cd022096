"""Bands of a way: rays by ways however great, each along one row or column of the leant sheet."""

from neverhit.books import led_by, word_for
from neverhit.checks import is_way
from neverhit.errors import BadWay
from neverhit.places import posts_told
from neverhit.rays import beginning_of, need_having, need_ray
from neverhit.rooms import need_room
from neverhit.sheets import marks_on, sheet_of


def bands_of(room, way):
    """How long the bands of a way are, ascending, each with how many are so long."""
    need_room(room, "room")
    if not is_way(way):
        raise BadWay("way")
    word, side = word_for(abs(way[0]), abs(way[1]))
    right, up, _ = led_by(sheet_of(room), room.fine, [], word)
    counts = {}
    for long in _lengths_of(right if side == "east" else up):
        counts[long] = counts.get(long, 0) + 1
    return tuple([(long, counts[long]) for long in sorted(counts)])


def end_of(room, square, place, way):
    """How a ray ends, and behind how many steps."""
    need_ray(room, square, place, way)
    need_having(room, square, place)
    return passed_on_way(room, square, place, way, ())[1]


def met_by(room, square, place, way, posts):
    """The step and the point of the first of some points that a ray comes to; None if there is none."""
    need_ray(room, square, place, way)
    points = posts_told(room, posts)
    need_having(room, square, place)
    met = passed_on_way(room, square, place, way, points)[0]
    return met[0] if met else None


def passed_on_way(room, square, place, way, points):
    """The pairs (step, point) of those of some points that a ray comes to ahead of its end, and that end.

    The way may be any pair of integers without a common divisor; the end is told as end_of tells it.
    """
    sheet, first, sizes = beginning_of(room, square, place, way)
    wanted = [(mark, point) for point in points for mark in marks_on(room, sheet, point)]
    word, side = word_for(sizes[0], sizes[1])
    right, up, marks = led_by(sheet, room.fine, [first] + [mark for mark, _ in wanted], word)
    at_marks = {}
    for mark, (_, point) in zip(marks[1:], wanted):
        at_marks[mark] = point
    met = []
    mark = _next_part(right, up, room.fine, marks[0], side)
    step = 1
    while mark != marks[0]:
        if mark[1] == 0 and mark[2] == 0 and sheet.corners[mark[0]] == 1:
            return met, ("corner", step)
        if mark in at_marks:
            met.append((step, at_marks[mark]))
        mark = _next_part(right, up, room.fine, mark, side)
        step += 1
    return met, ("round", step)


def _lengths_of(row):
    """For each lot of squares that come round, one by one, in a row of a sheet, how many they are."""
    lengths = []
    seen = {}
    for first in range(len(row)):
        number, long = first, 0
        while number not in seen:
            seen[number] = True
            number = row[number]
            long += 1
        if long > 0:
            lengths.append(long)
    return lengths


def _next_part(right, up, fine, mark, side):
    """The mark one part to the right, or up."""
    number, x, y = mark
    if side == "east":
        return (number, x + 1, y) if x + 1 < fine else (right[number], 0, y)
    return (number, x, y + 1) if y + 1 < fine else (up[number], x, 0)
