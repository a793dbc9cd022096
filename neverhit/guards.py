"""Guards: posts that stop all rays from a lamp to a wish, whatever the room; needless and thinned posts."""

from neverhit.books import book_of
from neverhit.changed import finer
from neverhit.errors import Misfit
from neverhit.judged import looked_through
from neverhit.papers import Paper
from neverhit.places import has_corner, need_apart, need_seeing, points_in, posts_told, squares_at
from neverhit.rooms import MOST_FINE
from neverhit.sheets import square_point


class Thin(Paper):
    """Posts that stop all rays, none of them needless."""

    def __init__(self, posts):
        super().__init__("thin", posts)
        self.posts = self.parts[0]


def sixteen(room, lamp, wish):
    """The sixteen points of lamp and wish, unlike ones, ascending, in the room made twice as fine."""
    need_seeing(room, lamp, wish)
    need_apart(lamp, wish, ())
    ax, ay = square_point(room, lamp)
    bx, by = square_point(room, wish)
    points = [(x, y) for x in _middles(ax, bx, room.fine) for y in _middles(ay, by, room.fine)]
    return tuple(sorted(set(points)))


def guards_of(room, lamp, wish):
    """The guards of lamp and wish, ascending, in the room made twice as fine."""
    folded = sixteen(room, lamp, wish)
    if 2 * room.fine > MOST_FINE:
        raise Misfit("room")
    double = finer(room, 2)
    ends = [(2 * x, 2 * y) for x, y in (lamp, wish)]
    return tuple([
        point for point in points_in(double)
        if square_point(double, point) in folded and point not in ends and not _is_corner_from_all(double, point)
    ])


def stops_all(room, lamp, wish, posts):
    """Whether some posts stop all rays from the lamp to the wish."""
    return _ray_past(room, lamp, wish, posts) is None


def needless(room, lamp, wish, posts):
    """Those of some posts that stop all rays without which the others stop all, too, ascending."""
    points = need_stopping(room, lamp, wish, posts)
    return tuple([post for post in points if stops_all(room, lamp, wish, _without(points, post))])


def thinned(room, lamp, wish, posts):
    """Some of the posts that stop all rays, none of them needless."""
    points = need_stopping(room, lamp, wish, posts)
    left = points
    # a post that is needed stays so when others are left out: each one is asked once
    for post in points:
        others = _without(left, post)
        if stops_all(room, lamp, wish, others):
            left = others
    return Thin(left)


def shots_past(room, lamp, wish, posts):
    """For each post, ascending, a ray that comes past all others; None if the post is needless."""
    points = need_stopping(room, lamp, wish, posts)
    return tuple([_ray_past(room, lamp, wish, _without(points, post)) for post in points])


def need_stopping(room, lamp, wish, posts):
    """The posts that a value tells, ascending, if they stop all rays."""
    if not stops_all(room, lamp, wish, posts):
        raise Misfit("posts")
    return posts_told(room, posts)


def _ray_past(room, lamp, wish, posts):
    """The Lit of a ray that comes to the wish past some posts; None if it is dark."""
    return looked_through(book_of(room, lamp, wish, posts))[0]


def _middles(one, other, fine):
    """All that the middle between two folded numbers can be, in parts half as great."""
    whole, apart = one + other, abs(one - other)
    return (whole, apart, 2 * fine - whole, 2 * fine - apart)


def _is_corner_from_all(room, point):
    """Whether a point is a corner from each of its squares."""
    return all([has_corner(room, square, point) for square in squares_at(room, point)])


def _without(posts, left_out):
    """Some posts without one of them."""
    return tuple([post for post in posts if post != left_out])
