"""The check of papers on screens."""

from neverhit.check_judged import shows_lit
from neverhit.checks import is_point, is_row, is_same
from neverhit.places import posts_told
from neverhit.screens import NoScreen, Screen, Screened, Through, fewest_posts, need_screening, screened


def shows_screened(room, lamps, wishes, posts, value):
    """Whether any value is a right Screened, or a right Through of any pair."""
    if not isinstance(value, Through):
        return bool(screened(room, lamps, wishes, posts)) and isinstance(value, Screened)
    pairs = need_screening(room, lamps, wishes, posts)
    lamp, wish, square, way, steps = value.parts
    if not (is_point(lamp) and is_point(wish) and (lamp, wish) in pairs):
        return False
    return shows_lit(room, lamp, wish, posts_told(room, posts), (square, way, steps))


def shows_fewest(room, lamps, wishes, points, most, value):
    """Whether any value is the Screen of any lot of the points that is as few as can be, or the NoScreen."""
    told = fewest_posts(room, lamps, wishes, points, most)
    if not told:
        return isinstance(value, NoScreen) and is_same(value.most, most)
    if not isinstance(value, Screen) or not is_row(value.posts) or len(value.posts) != len(told.posts):
        return False
    if not all([is_point(post) for post in value.posts]) or list(value.posts) != sorted(set(value.posts)):
        return False
    listed = [tuple(point) for point in points]
    return all([post in listed for post in value.posts]) and bool(screened(room, lamps, wishes, value.posts))
