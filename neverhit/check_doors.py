"""The check of papers on doors."""

from neverhit.check_judged import shows_lit
from neverhit.checks import is_same
from neverhit.doors import Doors, NoDoors, Opened, StillDark, darkened, lightened, room_by
from neverhit.places import posts_told


def shows_doors(room, lamp, wish, posts, most, value):
    """Whether any value is the Doors, or the NoDoors, that darkened tells."""
    told = darkened(room, lamp, wish, posts, most)
    if not told:
        return isinstance(value, NoDoors) and is_same(value.most, most)
    return isinstance(value, Doors) and is_same(value.sides, told.sides)


def shows_opened(room, lamp, wish, posts, most, value):
    """Whether any value is a right Opened, or the StillDark, for lightened."""
    told = lightened(room, lamp, wish, posts, most)
    if not told:
        return isinstance(value, StillDark) and is_same(value.most, most)
    if not isinstance(value, Opened) or not is_same(value.sides, told.sides):
        return False
    ray = (value.square, value.way, value.steps)
    return shows_lit(room_by(room, told.sides), lamp, wish, posts_told(room, posts), ray)
