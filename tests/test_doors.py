"""Doors: inner sides, the words of lots, the first lot that darkens or lightens."""

import random
import unittest
from itertools import combinations
from unittest import mock

import oracle
from common import (
    BENT, BLOCK, ELL, GATES, NO_INTEGERS, NO_POINTS, ODD, RING, SLAB, Checks, grown_rooms, hang_together, sides_between,
)

from neverhit.changed import opened, shut_up
from neverhit.check_judged import shows_judged
from neverhit.doors import (
    Doors, NoDoors, Opened, StillDark, all_doors, darkened, door_table, door_word, inner_sides, lightened, lots_of,
    room_by,
)
from neverhit.errors import BadNumber, BadPlace, BadRoom, Misfit, TooMany
from neverhit.judged import Lit, judged
from neverhit.papers import Denial, Paper
from neverhit.places import places_of, points_in
from neverhit.rooms import Room

HALL = Room(BLOCK)
HALF = Room(BLOCK, [((0, 0), (0, 1))])
WEST, SOUTH, NORTH, EAST = ((0, 0), (0, 1)), ((0, 0), (1, 0)), ((0, 1), (1, 1)), ((1, 0), (1, 1))
# a bend of four squares, a row, a T, a block; each with shut sides, too
SHAPES = ([(0, 0), (1, 0), (2, 0), (2, 1)], [(n, 0) for n in range(4)], [(0, 0), (1, 0), (2, 0), (1, 1)], BLOCK)


def all_lots(sides, most):
    """All lots of at most so many sides, in their order, by sorting."""
    sides = sorted(sides)
    lots = [()]
    for side in sides:
        lots = lots + [lot + (side,) for lot in lots]
    return sorted([lot for lot in lots if len(lot) <= most], key=lambda lot: (len(lot), lot))


def changed(room, lot):
    """The room that comes, None if it falls apart: by the words of the document."""
    shut = [side for side in room.shut if side not in lot] + [side for side in lot if side not in room.shut]
    return Room(room.squares, shut, room.fine) if hang_together(room.squares, shut) else None


def word(room, lamp, wish, posts, lot):
    """The word of a lot; lit and dark are those of judged, and looked at by short rays."""
    other = changed(room, lot)
    if other is None:
        return "apart"
    if not (oracle.is_place(other, lamp) and oracle.is_place(other, wish)):
        return "hidden"
    paper = judged(other, lamp, wish, posts)
    assert shows_judged(other, lamp, wish, posts, paper)
    if not paper:
        for number, square in enumerate(other.squares):
            for way in ((1, 0), (0, 1), (-1, 0), (0, -1), (1, 1), (-1, 1), (1, -1), (-1, -1), (1, 2), (-2, 1)):
                if square in oracle.owners(other, lamp):
                    assert not oracle.comes_by(other, number, lamp, way, wish, posts, 60)
    return paper.word


def cases(seed, many, most=4):
    """So many rooms of few squares, each with a lamp, a wish and posts."""
    chance = random.Random(seed)
    rooms = [room for room in grown_rooms(seed, many * 4, (1, 1, 2)) if 1 < room.many <= most]
    rooms += [Room(shape, fine=fine) for shape in SHAPES for fine in (1, 2)] + [HALF, Room(BLOCK, [NORTH], 2)]
    found = []
    for room in rooms[:many] + rooms[-10:]:
        places = places_of(room)
        if len(places) > 1:
            lamp, wish = chance.sample(places, 2)
            points = [point for point in points_in(room) if point not in (lamp, wish)]
            found.append((room, lamp, wish, chance.sample(points, min(len(points), chance.choice((0, 1, 3, 30))))))
    return found


def blocks():
    """All blocks of four squares with a shut side, lamps, wishes and one post."""
    found = []
    for side in (WEST, SOUTH, NORTH, EAST):
        room = Room(BLOCK, [side])
        for lamp, wish in combinations(places_of(room), 2):
            found.extend([(room, lamp, wish, [post]) for post in points_in(room) if post not in (lamp, wish)])
    return found


class InnerSides(Checks):

    def test_all_between_two_squares(self):
        for room in grown_rooms(130, 60) + [Room(RING), Room(SLAB), Room(*BENT), Room(*GATES), Room([(0, 0)])]:
            self.assertEqual(tuple(sorted(sides_between(room.squares))), inner_sides(room))

    def test_by_hand(self):
        self.assertEqual((WEST, SOUTH, NORTH, EAST), inner_sides(HALL))
        self.assertEqual((WEST, SOUTH, NORTH, EAST), inner_sides(room=HALF))
        self.assertEqual((), inner_sides(Room([(5, 5)])))
        self.assertEqual(((WEST, SOUTH)), inner_sides(Room(ELL)))
        self.assert_bad(BadRoom, "room", ODD + (5,), inner_sides)


class Lots(Checks):

    def test_in_their_order(self):
        for sides in ([], [WEST], [WEST, SOUTH, NORTH, EAST], sorted(sides_between(SLAB))[:7]):
            for most in range(5):
                self.assertEqual(all_lots(sides, most), lots_of(sides, most))
                self.assertEqual(all_lots(sides, most), lots_of(tuple(sides), most))

    def test_rooms_that_come(self):
        for room in grown_rooms(131, 40) + [HALL, HALF]:
            for lot in all_lots(inner_sides(room), 2):
                told, wanted = room_by(room, lot), changed(room, lot)
                self.assertTrue(told == wanted)
                # a lot that is changed twice changes nothing
                if told is not None:
                    self.assertTrue(room_by(told, lot) == room)
        self.assertTrue(shut_up(HALL, WEST) == room_by(HALL, [WEST]))
        self.assertTrue(opened(HALF, WEST) == room_by(HALF, [WEST]))
        self.assertIsNone(room_by(HALL, [WEST, NORTH]))


class Words(Checks):

    def test_by_hand(self):
        ends = (1, 0), (1, 2)
        self.assertEqual(["dark", "hidden", "hidden", "lit"], [w for _, w in door_table(HALL, *ends, [(2, 1)])])
        self.assertEqual("lit", door_word(HALL, *ends, [], [((0, 1), (0, 0))]))
        self.assertEqual("lit", door_word(sides=(), posts=[[2, 1]], wish=[1, 2], lamp=[1, 0], room=HALL))
        self.assertEqual("apart", door_word(HALL, *ends, [], [WEST, EAST]))
        self.assertEqual("hidden", door_word(HALL, *ends, [], [[[1, 0], [0, 0]]]))
        self.assertEqual("lit", door_word(HALF, *ends, [(2, 1)], [WEST]))
        self.assertEqual("dark", door_word(HALF, *ends, [(2, 1)], []))
        # the one side is opened, the other one shut
        self.assertEqual("lit", door_word(HALF, *ends, [(2, 1)], [WEST, EAST]))

    def test_by_the_words_of_the_document(self):
        seen = {}
        for room, lamp, wish, posts in cases(132, 40) + blocks()[::2]:
            lots = all_lots(inner_sides(room), 5)
            words = [word(room, lamp, wish, posts, lot) for lot in lots]
            for lot, wanted in zip(lots, words):
                self.assertEqual(wanted, door_word(room, lamp, wish, posts, [side[::-1] for side in lot][::-1]))
                seen[wanted] = seen.get(wanted, 0) + 1
            self.assertEqual(tuple(words.count(w) for w in ("apart", "hidden", "lit", "dark")),
                             all_doors(room, lamp, wish, posts))
            self.assertEqual(tuple((lot[0], w) for lot, w in zip(lots, words) if len(lot) == 1),
                             door_table(room, lamp, wish, posts))
        self.assertEqual(["apart", "dark", "hidden", "lit"], sorted(seen))
        self.assertGreater(min(seen.values()), 5)

    def test_all_doors_by_hand(self):
        self.assertEqual((11, 2, 3, 0), all_doors(HALL, (1, 0), (1, 2), ()))
        self.assertEqual((11, 2, 2, 1), all_doors(wish=(1, 2), lamp=(1, 0), room=HALL, posts=[(2, 1)]))
        row = Room([(n, 0) for n in range(4)])
        self.assertEqual((7, 0, 1, 0), all_doors(row, (1, 0), (2, 0), ()))
        self.assertEqual((0, 0, 1, 0), all_doors(Room([(0, 0)], fine=2), (1, 0), (1, 2), ()))
        self.assertEqual((), door_table(Room([(0, 0)], fine=2), (1, 0), (1, 2), ()))
        # the lamp in the midst of a shut side: it is a place with and without it
        told = dict(door_table(Room(BLOCK, [WEST], 2), (1, 2), (3, 2), ()))
        self.assertEqual("lit", told[WEST])

    def test_at_the_most_sides(self):
        five = Room([(n, 0) for n in range(6)])
        self.assertEqual((31, 0, 1, 0), all_doors(five, (1, 0), (2, 0), ()))
        for room in (Room([(n, 0) for n in range(7)]), Room(RING), Room([(n, 0) for n in range(6)] + [(0, 1)])):
            lamp, wish = places_of(room)[:2]
            self.assert_raises(TooMany, "sides", 5, lambda: all_doors(room, lamp, wish, ()))
        shut = Room([(i, j) for i in range(3) for j in range(2)], [((0, 0), (0, 1)), ((1, 0), (1, 1))])
        self.assert_raises(TooMany, "sides", 5, lambda: all_doors(shut, (1, 0), (1, 2), ()))
        self.assertEqual(7, len(door_table(shut, (1, 0), (1, 2), ())))

    def test_lists_for_tuples_and_what_is_passed_stays(self):
        posts, sides = [[2, 1]], [[[0, 1], [0, 0]]]
        self.assertEqual("dark", door_word(HALL, [1, 0], [1, 2], posts, sides))
        door_table(HALL, [1, 0], [1, 2], posts), all_doors(HALL, [1, 0], [1, 2], posts)
        self.assertEqual(([[2, 1]], [[[0, 1], [0, 0]]]), (posts, sides))
        self.assertEqual((), HALL.shut)


class Papers(Checks):

    def test_the_papers(self):
        doors = Doors([[[0, 0], (0, 1)]])
        self.assertEqual(("doors", ((WEST,),), (WEST,)), (doors.word, doors.parts, doors.sides))
        self.assertTrue(doors == Doors(sides=(WEST,)))
        self.assertEqual(("nodoors", (3,), 3), (NoDoors(3).word, NoDoors(3).parts, NoDoors(most=3).most))
        told = Opened([WEST], 2, [0, 1], 2)
        self.assertEqual(("opened", ((WEST,), 2, (0, 1), 2)), (told.word, told.parts))
        self.assertEqual(((WEST,), 2, (0, 1), 2), (told.sides, told.square, told.way, told.steps))
        self.assertTrue(told == Opened(steps=2, way=(0, 1), square=2, sides=(WEST,)))
        self.assertEqual(("stilldark", (0,), 0), (StillDark(0).word, StillDark(0).parts, StillDark(most=0).most))
        self.assertEqual([True, False, True, False], [bool(p) for p in (doors, NoDoors(1), told, StillDark(1))])
        self.assertEqual([(Paper,), (Denial,)] * 2, [made.__bases__ for made in (Doors, NoDoors, Opened, StillDark)])
        self.assertFalse(NoDoors(1) == StillDark(1))
        for value in ODD:
            self.assertEqual(1, len(Doors(value).parts) * len(NoDoors(value).parts) * len(StillDark(value).parts))


class FirstLots(Checks):

    def test_by_hand(self):
        ends = (1, 0), (1, 2)
        self.assertTrue(darkened(HALL, *ends, [(2, 1)], 1) == Doors([WEST]))
        self.assertTrue(darkened(HALL, *ends, [(2, 1)], most=3) == Doors([WEST]))
        self.assertTrue(darkened(HALL, *ends, [(2, 1)], 0) == NoDoors(0))
        self.assertTrue(darkened(HALL, *ends, (), 3) == NoDoors(3))
        self.assertTrue(darkened(HALF, *ends, [(2, 1)], 0) == Doors(()))
        self.assertTrue(lightened(HALL, *ends, [(2, 1)], 0).sides == ())
        told = lightened(posts=[[2, 1]], most=1, room=HALF, lamp=[1, 0], wish=[1, 2])
        self.assertEqual(("opened", (WEST,)), (told.word, told.sides))
        self.assertTrue(shows_judged(HALL, *ends, [(2, 1)], Lit(*told.parts[1:])))
        self.assertTrue(lightened(HALF, *ends, [(2, 1)], 0) == StillDark(0))
        like_w = Room([(0, 0), (0, 1), (1, 1), (1, 2), (2, 2)])
        self.assertTrue(darkened(like_w, (0, 1), (2, 3), (), 0) == Doors(()))
        self.assertTrue(lightened(like_w, (0, 1), (2, 3), (), 3) == StillDark(3))

    def test_by_trial_of_all_lots(self):
        seen = {}
        for room, lamp, wish, posts in cases(133, 50) + cases(134, 12, 5) + blocks():
            for most in range(4):
                dark = [lot for lot in all_lots([side for side in inner_sides(room) if side not in room.shut], most)
                        if word(room, lamp, wish, posts, lot) == "dark"]
                told = darkened(room, lamp, wish, posts, most)
                self.assertTrue(told == (Doors(dark[0]) if dark else NoDoors(most)))
                lit = [lot for lot in all_lots(room.shut, most) if word(room, lamp, wish, posts, lot) == "lit"]
                other = lightened(room, lamp, wish, posts, most)
                self.assertEqual("opened" if lit else "stilldark", other.word)
                if lit:
                    self.assertEqual(lit[0], other.sides)
                    ray = Lit(other.square, other.way, other.steps)
                    self.assertTrue(shows_judged(changed(room, lit[0]), lamp, wish, posts, ray))
                else:
                    self.assertEqual((most,), other.parts)
                for paper in (told, other):
                    key = (paper.word, len(paper.sides) if paper else 0)
                    seen[key] = seen.get(key, 0) + 1
        for key in (("doors", 0), ("doors", 1), ("nodoors", 0), ("opened", 0), ("opened", 1), ("stilldark", 0)):
            self.assertGreater(seen.get(key, 0), 1, key)

    def test_two_sides_to_be_opened(self):
        # between two shut sides in a line the lamp looks along them to a corner; if one of them is opened it is one
        # itself; past both of them, opened, it sees the wish straight on
        room, posts = Room(*GATES), [(1, 0), (1, 2), (2, 0), (2, 2)]
        self.assertEqual("dark", judged(room, (1, 1), (3, 1), posts).word)
        self.assertEqual(["hidden", "hidden"], [door_word(room, (1, 1), (3, 1), posts, [side]) for side in room.shut])
        self.assertTrue(lightened(room, (1, 1), (3, 1), posts, 1) == StillDark(1))
        for most in (2, 3):
            self.assertEqual(room.shut, lightened(room, (1, 1), (3, 1), posts, most).sides)
        # of two columns each way up the eastern one is not enough
        slab = Room([(i, j) for i in range(4) for j in range(2)])
        self.assertTrue(darkened(slab, (3, 2), (3, 0), (), 1) == NoDoors(1))
        for most in (2, 3):
            self.assertTrue(darkened(slab, (3, 2), (3, 0), (), most) == Doors([WEST, ((3, 0), (3, 1))]))
        self.assertTrue(darkened(slab, (1, 0), (3, 2), (), 2) == NoDoors(2))
        self.assertTrue(darkened(slab, (1, 0), (3, 2), (), 3) == Doors([WEST, ((1, 0), (2, 0)), ((3, 0), (3, 1))]))

    def test_lots_are_asked_in_their_order_up_to_the_one_that_is_told(self):
        asked = []

        def listened(room, lamp, wish, posts):
            asked.append(room.shut)
            return judged(room, lamp, wish, posts)

        with mock.patch("neverhit.doors.judged", listened):
            darkened(HALL, (1, 0), (1, 2), [(2, 1)], 3)
            self.assertEqual([(), (WEST,)], asked)
            asked.clear()
            # by SOUTH and NORTH the lamp and the wish are hidden: they need not be asked, nor any lot of two sides
            darkened(HALL, (1, 0), (1, 2), (), 3)
            self.assertEqual([(), (WEST,), (EAST,)], asked)
            asked.clear()
            lightened(HALF, (1, 0), (1, 2), [(2, 1)], 3)
            self.assertEqual([(WEST,), ()], asked)

    def test_too_many_books(self):
        # twelve books come of the half room with the post; of all other rooms here one that shows the wish comes soon
        with mock.patch("neverhit.books.MOST_BOOKS", 11):
            ends, posts = ((1, 0), (1, 2)), [(2, 1)]
            for call in (
                lambda: door_word(HALF, *ends, posts, []), lambda: door_word(HALL, *ends, posts, [WEST]),
                lambda: door_table(HALL, *ends, posts), lambda: all_doors(HALF, *ends, posts),
                lambda: darkened(HALF, *ends, posts, 0), lambda: lightened(HALF, *ends, posts, 0),
                lambda: darkened(HALL, *ends, posts, 1), lambda: lightened(HALF, *ends, posts, 3),
            ):
                self.assert_raises(TooMany, "books", 11, call)
            # no other lot is asked than the one that is told of, and those ahead of it
            self.assertEqual("apart", door_word(HALF, *ends, posts, [EAST]))
            self.assertEqual("hidden", door_word(HALL, *ends, posts, [SOUTH]))
            self.assertEqual((), lightened(HALL, *ends, posts, 3).sides)
            self.assertTrue(darkened(HALL, *ends, posts, 0) == NoDoors(0))
            self.assertEqual("lit", dict(door_table(HALF, *ends, posts))[WEST])
        with mock.patch("neverhit.books.MOST_BOOKS", 12):
            self.assertTrue(darkened(HALL, *ends, posts, 1) == Doors([WEST]))

    def test_errors_of_doors(self):
        calls = (
            lambda *told: door_word(*told, None), lambda *told: door_table(*told), lambda *told: all_doors(*told),
            lambda *told: darkened(*told, None), lambda *told: lightened(*told, None),
        )
        places = NO_POINTS + ((0, 0), (9, 9))
        for call in calls:
            self.assert_bad(BadRoom, "room", ODD + (5,), lambda value: call(value, None, None, None))
            self.assert_bad(BadPlace, "lamp", places, lambda value: call(HALL, value, None, None))
            self.assert_bad(BadPlace, "wish", places, lambda value: call(HALL, (1, 0), value, None))
            for value in ODD + (5, (1, 1), [(9, 9)], [(1, 1), [1, 1]], [(1, 1), None]):
                self.assert_raises(BadPlace, "posts", lambda: call(HALL, (1, 0), (1, 0), value))
        for value in ODD + (5, WEST, [((0, 0), (1, 1))], [WEST, WEST[::-1]], [WEST, None], [((0, 0), (0, 2))],
                            [((1, 1), (2, 1))], [((0, 0), (0, 1), (1, 1))], [((0, 0), (0, True))]):
            if value != []:
                self.assert_raises(BadRoom, "sides", lambda: door_word(HALL, (1, 0), (1, 0), [(1, 0)], value))
        for call in (darkened, lightened):
            self.assert_bad(BadNumber, "most", NO_INTEGERS + (-1, 4, 10 ** 40),
                            lambda value: call(HALL, (1, 0), (1, 0), [(1, 0)], value))

    def test_misfits_come_behind_all_parameters(self):
        calls = (
            lambda wish, posts: door_word(HALL, (1, 0), wish, posts, []),
            lambda wish, posts: door_table(HALL, (1, 0), wish, posts),
            lambda wish, posts: all_doors(HALL, (1, 0), wish, posts),
            lambda wish, posts: darkened(HALL, (1, 0), wish, posts, 3),
            lambda wish, posts: lightened(HALL, (1, 0), wish, posts, 3),
            lambda wish, posts: all_doors(Room(SLAB), (1, 0), wish, posts),
        )
        for call in calls:
            self.assert_raises(Misfit, "wish", lambda: call([1, 0], [(1, 0)]))
        for call in calls[:5]:
            self.assert_raises(Misfit, "posts", lambda: call((1, 2), [(2, 1), [1, 0]]))
            self.assert_raises(Misfit, "posts", lambda: call((1, 2), [[1, 2]]))
        # nothing needs to be judged, as all falls apart
        row = Room([(n, 0) for n in range(4)])
        for posts, part in (([], "wish"), ([(1, 0)], "wish")):
            self.assert_raises(Misfit, part, lambda: door_word(row, (1, 0), (1, 0), posts, inner_sides(row)[:1]))
            self.assert_raises(Misfit, part, lambda: door_table(row, (1, 0), [1, 0], posts))
        self.assert_raises(Misfit, "posts", lambda: door_word(row, (1, 0), (2, 0), [(1, 0)], inner_sides(row)[:1]))
        self.assert_raises(Misfit, "posts", lambda: door_table(row, (1, 0), (2, 0), [(2, 0)]))
        self.assertEqual(["apart"] * 3, [told for _, told in door_table(row, (1, 0), (2, 0), [])])


if __name__ == "__main__":
    unittest.main()
