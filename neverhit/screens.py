"""Screens: posts that keep several wishes dark from several lamps, and as few of them as can be."""

from neverhit.bands import passed_on_way
from neverhit.checks import is_row, is_within
from neverhit.doors import lots_of
from neverhit.errors import BadNumber, BadPlace, Misfit
from neverhit.judged import judged
from neverhit.papers import Denial, Paper
from neverhit.places import is_place, points_told, posts_told
from neverhit.rooms import need_room

MOST_PLACES = 6
MOST_POINTS = 12
MOST_FEW = 3


class Screened(Paper):
    """Posts screen all wishes from all lamps."""

    def __init__(self):
        super().__init__("screened")


class Through(Denial):
    """A lamp and a wish that are not screened, and a ray from the one to the other."""

    def __init__(self, lamp, wish, square, way, steps):
        super().__init__("through", lamp, wish, square, way, steps)
        self.lamp, self.wish, self.square, self.way, self.steps = self.parts


class Screen(Paper):
    """As few posts as can screen."""

    def __init__(self, posts):
        super().__init__("screen", posts)
        self.posts = self.parts[0]


class NoScreen(Denial):
    """No so few points screen."""

    def __init__(self, most):
        super().__init__("noscreen", most)
        self.most = self.parts[0]


def screened(room, lamps, wishes, posts):
    """Whether posts screen the wishes from the lamps, or the first pair that is lit."""
    for lamp, wish in need_screening(room, lamps, wishes, posts):
        paper = judged(room, lamp, wish, posts)
        if paper:
            return Through(lamp, wish, *paper.parts)
    return Screened()


def fewest_posts(room, lamps, wishes, points, most):
    """The least lot of as few of some points as can screen, or that so few can not."""
    need_room(room, "room")
    ends = _places_told(room, lamps, "lamps") + _places_told(room, wishes, "wishes")
    points = points_told(room, points, MOST_POINTS, "points")
    if not is_within(most, 0, MOST_FEW):
        raise BadNumber("most")
    if any([point in ends for point in points]):
        raise Misfit("points")
    if not screened(room, lamps, wishes, points):
        return NoScreen(most)
    # for each ray that came through so far the points that stop it: a lot that screens has one of them for each
    stops = []
    for lot in lots_of(points, most):
        if not all([any([point in lot for point in row]) for row in stops]):
            continue
        paper = screened(room, lamps, wishes, lot)
        if paper:
            return Screen(lot)
        stops.append(_points_met(room, paper, points))
    return NoScreen(most)


def need_screening(room, lamps, wishes, posts):
    """All pairs of a lamp and a wish that is another place, lamps ascending, for each wishes ascending."""
    need_room(room, "room")
    lamp_places, wish_places = _places_told(room, lamps, "lamps"), _places_told(room, wishes, "wishes")
    points = posts_told(room, posts)
    if any([point in lamp_places + wish_places for point in points]):
        raise Misfit("posts")
    return [(lamp, wish) for lamp in lamp_places for wish in wish_places if lamp != wish]


def _places_told(room, value, part):
    """The unlike places of the room that the value of this part tells, ascending."""
    if not (is_row(value) and 1 <= len(value) <= MOST_PLACES and all([is_place(room, place) for place in value])):
        raise BadPlace(part)
    return points_told(room, value, MOST_PLACES, part)


def _points_met(room, through, points):
    """Those of some points that the ray of a Through meets ahead of the wish."""
    met, _ = passed_on_way(room, through.square, through.lamp, through.way, points)
    return [point for step, point in met if step < through.steps]
