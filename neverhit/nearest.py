"""Sights: rays from a lamp to a place within some length; the shortest one; light that comes home."""

from math import gcd, isqrt

from neverhit.checks import is_within
from neverhit.errors import BadNumber, TooMany
from neverhit.judged import Lit, judged
from neverhit.places import need_apart, need_place, need_seeing, posts_told
from neverhit.rooms import need_room
from neverhit.sheets import is_end, mark_behind, marks_on, passed_by, sheet_of

MOST_FAR = 2000
MOST_LENGTH = 2500
# looked through first, as most sights are found there
NEAR = 64


def rays_within(room, lamp, wish, posts, far):
    """All sights from lamp to wish past the posts up to some square length, ascending."""
    need_seeing(room, lamp, wish)
    points = posts_told(room, posts)
    _need_far(far)
    need_apart(lamp, wish, points)
    return _sights(room, lamp, wish, points, far)


def shortest(room, lamp, wish, posts=()):
    """The Lit of the least sight; what tells that it is dark, if there is none."""
    need_seeing(room, lamp, wish)
    points = posts_told(room, posts)
    need_apart(lamp, wish, points)
    for far in (NEAR, MOST_LENGTH):
        sights = _sights(room, lamp, wish, points, far)
        if sights:
            _, square, way, steps = sights[0]
            return Lit(square, way, steps)
    paper = judged(room, lamp, wish, points)
    if paper:
        raise TooMany("length", MOST_LENGTH)
    return paper


def homeward(room, lamp, far):
    """All sights from the lamp to itself up to some square length, ascending."""
    need_room(room, "room")
    need_place(room, lamp, "lamp")
    _need_far(far)
    return _sights(room, lamp, lamp, (), far)


def _need_far(far):
    """Nothing, if this is a square length up to which one may look."""
    if not is_within(far, 1, MOST_FAR):
        raise BadNumber("far")


def _sights(room, lamp, place, posts, far):
    """All sights from a lamp to a place past posts up to some square length, ascending."""
    sheet = sheet_of(room)
    lamps = marks_on(room, sheet, lamp)
    # at each of these marks a ray has gone far enough: it is a sight if this is one of the place
    stops = {}
    for point in posts + (lamp,):
        for mark in marks_on(room, sheet, point):
            stops[mark] = False
    for mark in marks_on(room, sheet, place):
        stops[mark] = True
    sights = []
    for way in _ways_within(far):
        for first in lamps:
            steps = _steps_to(sheet, room.fine, first, way, stops, far)
            if steps is not None:
                sights.append(_sight_of(first, way, steps))
    # a way along a side is told from two copies of its square
    return tuple(sorted(set(sights)))


def _ways_within(far):
    """All ways with numbers from 0 on whose squared length is at most far."""
    most = isqrt(far)
    ways = [(p, q) for p in range(most + 1) for q in range(most + 1) if gcd(p, q) == 1]
    return [(p, q) for p, q in ways if p * p + q * q <= far]


def _steps_to(sheet, fine, first, way, stops, far):
    """Behind how many steps, within some square length, a way leads to the place; None if it does not."""
    p, q = way
    mark, steps = first, 1
    while (p * p + q * q) * steps * steps <= far:
        mark = mark_behind(fine, mark, way, passed_by(sheet, fine, mark, way))
        if is_end(sheet, mark):
            return None
        if mark in stops:
            return steps if stops[mark] else None
        steps += 1
    return None


def _sight_of(first, way, steps):
    """The sight that goes by a way with numbers from 0 on from a mark of the lamp on the room's sheet."""
    number = first[0]
    p, q = way
    length = (p * p + q * q) * steps * steps
    return (length, number // 4, (-p if number & 1 else p, -q if number & 2 else q), steps)
