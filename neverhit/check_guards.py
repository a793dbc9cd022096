"""The check of papers that tell thin posts."""

from neverhit.checks import is_point, is_row
from neverhit.guards import Thin, need_stopping, needless, stops_all


def shows_thin(room, lamp, wish, posts, value):
    """Whether any value is a right Thin."""
    points = need_stopping(room, lamp, wish, posts)
    if not isinstance(value, Thin) or not _is_some_of(value.posts, points):
        return False
    return stops_all(room, lamp, wish, value.posts) and needless(room, lamp, wish, value.posts) == ()


def _is_some_of(value, points):
    """Whether a value is a list of some of these points, unlike ones, ascending."""
    if not is_row(value) or not all([is_point(point) for point in value]):
        return False
    return all([point in points for point in value]) and list(value) == sorted(set(value))
