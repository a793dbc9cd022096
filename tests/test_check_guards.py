"""The check of papers on thin posts."""

import itertools
import random
import unittest

from common import BLOCK, ELL, NO_POINTS, ODD, RING, AlwaysEqual, Checks

from neverhit.changed import finer
from neverhit.check_guards import shows_thin
from neverhit.errors import BadPlace, BadRoom, Misfit, TooMany
from neverhit.guards import Thin, guards_of, thinned
from neverhit.judged import Dark, judged
from neverhit.papers import Denial, Paper
from neverhit.places import places_of
from neverhit.rooms import Room

ONE = Room([(0, 0)], fine=2)
WIDE = Room([(0, 0), (1, 0)], fine=4)
SOME = ((0, 2), (2, 2), (4, 2), (6, 2), (8, 2))
THIN = ((0, 2), (2, 2), (6, 2), (8, 2))


def shown(posts):
    """Whether a Thin of these posts is right for some posts of two squares."""
    told = shows_thin(WIDE, (2, 0), (2, 4), SOME, Thin(posts))
    assert told in (True, False) and isinstance(told, bool)
    return told


class ThinPosts(Checks):

    def test_as_told_and_as_lists(self):
        self.assertTrue(shown(THIN))
        self.assertTrue(shown([list(post) for post in THIN]))
        self.assertTrue(shows_thin(WIDE, (2, 0), (2, 4), SOME, thinned(WIDE, (2, 0), (2, 4), SOME)))
        self.assertTrue(shows_thin(room=WIDE, lamp=[2, 0], wish=[2, 4], posts=[list(post) for post in SOME[::-1]],
                                   value=Thin(THIN)))

    def test_in_another_order_left_out_put_in_or_twice(self):
        for order in itertools.permutations(THIN):
            self.assertIs(order == THIN, shown(order))
        for at in range(4):
            self.assertFalse(shown(THIN[:at] + THIN[at + 1:]))
            self.assertFalse(shown(THIN[:at + 1] + THIN[at:]))
        self.assertFalse(shown(SOME))
        self.assertFalse(shown(()))
        self.assertFalse(shown(tuple(sorted(THIN + ((1, 1),)))))
        self.assertFalse(shown(tuple(sorted(THIN[:3] + ((4, 2),)))))

    def test_all_lots(self):
        """A lot is right exactly if it is dark past it, and past no lot with one post less."""
        for room, lamp, wish in ((Room(ELL), (1, 0), (0, 1)), (Room([(0, 0), (1, 0)]), (1, 0), (1, 1)),
                                 (Room(BLOCK), (1, 0), (1, 2))):
            double, ends = finer(room, 2), [(2 * lamp[0], 2 * lamp[1]), (2 * wish[0], 2 * wish[1])]
            posts = (guards_of(room, lamp, wish) + ((1, 1), (3, 1), (0, 2)))[:6]
            posts = tuple(sorted(set(posts) - set(ends)))
            lots = [lot for many in range(len(posts) + 1) for lot in itertools.combinations(posts, many)]
            dark = {lot: not judged(double, *ends, lot) for lot in lots}
            for lot in lots:
                smaller = [lot[:at] + lot[at + 1:] for at in range(len(lot))]
                right = dark[lot] and not any(dark[other] for other in smaller)
                self.assertIs(right, shows_thin(double, *ends, posts, Thin(lot)))

    def test_dark_without_posts(self):
        like_w = Room([(0, 0), (0, 1), (1, 1), (1, 2), (2, 2)])
        for posts in ((), ((0, 0),), ((0, 0), (1, 1))):
            self.assertTrue(shows_thin(like_w, (0, 1), (2, 3), posts, Thin(())))
            self.assertFalse(shows_thin(like_w, (0, 1), (2, 3), posts, Thin([(0, 0)])))

    def test_any_values(self):
        values = ODD + (5, THIN, list(THIN), Paper("thin", THIN), Denial("thin", THIN), Dark(THIN))
        for value in values:
            self.assertIs(False, shows_thin(WIDE, (2, 0), (2, 4), SOME, value))
        for value in ODD + (5, [None], [1], "abc", {0: 1}):
            self.assertIs(False, shown(value))
            self.assertIs(False, shown(THIN[:3] + (value,)))
        for post in ((8, 2.0), (8, True), (8, 2, 0), (8,), "82", None, (AlwaysEqual(), 2), AlwaysEqual()):
            self.assertIs(False, shown(THIN[:3] + (post,)))

    def test_what_is_passed_stays(self):
        posts = [list(post) for post in SOME[::-1]]
        shows_thin(WIDE, (2, 0), (2, 4), posts, Thin(THIN))
        self.assertEqual([list(post) for post in SOME[::-1]], posts)

    def test_errors_whatever_the_value(self):
        for told in (None, Thin(()), Thin(THIN)):
            self.assert_bad(BadRoom, "room", ODD + (5,), lambda value: shows_thin(value, None, None, None, told))
            places = NO_POINTS + ((0, 0), (9, 9))
            self.assert_bad(BadPlace, "lamp", places, lambda value: shows_thin(ONE, value, None, None, told))
            self.assert_bad(BadPlace, "wish", places, lambda value: shows_thin(ONE, (1, 1), value, None, told))
            for value in ODD + (5, (1, 1), [(9, 9)], [(0, 1), [0, 1]], [(0, 1), None]):
                if value != []:
                    self.assert_raises(BadPlace, "posts", lambda: shows_thin(ONE, (1, 1), (1, 1), value, told))
            self.assert_raises(Misfit, "wish", lambda: shows_thin(ONE, (1, 1), [1, 1], [(1, 1)], told))
            self.assert_raises(Misfit, "posts", lambda: shows_thin(ONE, (1, 1), (1, 2), [(0, 1), [1, 1]], told))
            self.assert_raises(Misfit, "posts", lambda: shows_thin(WIDE, (2, 0), (2, 4), SOME[1:], told))

    def test_too_many_books(self):
        ring, double = Room(RING), Room(RING, fine=2)
        posts = list(guards_of(ring, (0, 1), (0, 2)))
        posts.extend([post for post in ((1, 1), (5, 1), (1, 5), (3, 5)) if post not in posts])
        self.assert_raises(TooMany, "books", 5000, lambda: shows_thin(double, (0, 2), (0, 4), posts, None))

    def test_of_other_rooms(self):
        chance = random.Random(80)
        for room in (Room(RING), Room(ELL), Room(BLOCK)):
            lamp, wish = places_of(room)[:2]
            double, ends = finer(room, 2), [(2 * lamp[0], 2 * lamp[1]), (2 * wish[0], 2 * wish[1])]
            posts = list(guards_of(room, lamp, wish))
            chance.shuffle(posts)
            self.assertTrue(shows_thin(double, *ends, posts, thinned(double, *ends, posts)))


if __name__ == "__main__":
    unittest.main()
