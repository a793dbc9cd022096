"""Stories of rays: told, read back, the first wrong line."""

import random
import unittest

import oracle
from common import BENT, BLOCK, ELL, GATES, NO_INTEGERS, NO_POINTS, ODD, RING, ROW, Checks, OwnList, grown_rooms

from neverhit.errors import BadNumber, BadPlace, BadRoom, BadWay, BadWord, Misfit
from neverhit.places import places_of, squares_at
from neverhit.rays import bounces_of, track_of
from neverhit.rooms import Room
from neverhit.stories import shows_story, story_in, story_of, wrong_line

ONE = Room([(0, 0)], fine=2)
CORNER = Room(ELL)
TOLD = ("room fine 2 / 0 0", "from 0 1 0 by 1 1", "to 2 1 met E", "to 1 2 met N", "to 0 1 met W", "on")
ROUND = TOLD[:5] + ("to 1 0 met S", "round")
ENDED = ("room fine 1 / 0 0 / 0 1 / 1 0", "from 0 1 0 by -1 1", "to 0 1 met W", "to 1 2 met -", "corner")
WAYS = ((1, 0), (0, -1), (1, 1), (-1, 2), (3, -1), (-2, -3), (5, 2), (7, -4), (0, 1), (-1, 0))
# values that are no lists of strings
NO_LINES = tuple(value for value in ODD if value not in ([], ["a", "b"], ("0", "0"))) + (
    5, "room fine 2 / 0 0", [1], [TOLD], ["room fine 2 / 0 0", None], {"room": 1}, (b"room",), 10 ** 40)


def story(room, number, place, way, steps):
    """A story by walking side by side, as the document tells it."""
    ray = oracle.Ray(room, number, place, way)
    begin = ray.stand()
    lines = [f"room {room}", "from {} {} {} by {} {}".format(number, *place, *way)]
    end = "on"
    for _ in range(steps):
        before = len(ray.met)
        ray.step()
        lines.append("to {} {} met {}".format(*ray.point, ray.met[before:] or "-"))
        if ray.ended or ray.stand() == begin:
            end = "corner" if ray.ended else "round"
            break
    return (*lines, end)


def rays(seed, many):
    """So many rays: a room, a square, a place, a way."""
    chance = random.Random(seed)
    found = []
    for room in grown_rooms(seed, many * 2) + [Room(*BENT, 2), Room(*GATES), Room(RING), ONE, CORNER]:
        places = places_of(room)
        if places and len(found) < many + 5:
            place = chance.choice(places)
            found.append((room, chance.choice(squares_at(room, place)), place, chance.choice(WAYS)))
    return found


class Told(Checks):

    def test_by_hand(self):
        self.assertEqual(TOLD, story_of(ONE, 0, (1, 0), (1, 1), 3))
        self.assertEqual(TOLD[:2] + ("on",), story_of(ONE, 0, (1, 0), (1, 1), 0))
        for steps in (4, 5, 9, 400):
            self.assertEqual(ROUND, story_of(steps=steps, way=[1, 1], place=[1, 0], square=0, room=ONE))
        self.assertEqual(ENDED[:3] + ("on",), story_of(CORNER, 0, (1, 0), (-1, 1), 1))
        for steps in (2, 3, 400):
            self.assertEqual(ENDED, story_of(CORNER, 0, (1, 0), (-1, 1), steps))
        self.assertEqual(("to 2 2 met EW", "corner"), story_of(ONE, 0, (1, 0), (5, 2), 1)[2:])
        # the wall at the beginning is no step's
        self.assertEqual(("from 0 1 2 by 0 1", "to 1 1 met -", "to 1 0 met S", "to 1 1 met -", "to 1 2 met N", "round"),
                         story_of(ONE, 0, (1, 2), (0, 1), 400)[1:])
        # numbers below 0
        self.assertEqual(("room fine 2 / -3 -2", "from 0 -5 -3 by 0 -1", "to -5 -4 met S", "on"),
                         story_of(Room([(-3, -2)], fine=2), 0, (-5, -3), (0, -1), 1))

    def test_by_the_words(self):
        ends = {}
        for ray in rays(160, 150):
            for steps in (0, 1, 2, 5, 23):
                told = story_of(*ray, steps)
                self.assertEqual(story(*ray, steps), told)
                self.assertIs(tuple, told.__class__)
                ends[told[-1]] = ends.get(told[-1], 0) + 1
        self.assertGreater(min(ends.values()), 30)

    def test_letters_as_bounces_tell_them(self):
        for ray in rays(161, 60):
            for steps in (1, 3, 40):
                told = story_of(*ray, steps)
                letters = "".join(line.split(" ")[4] for line in told[2:-1]).replace("-", "")
                self.assertEqual(bounces_of(*ray, len(told) - 3), letters)
                points = tuple(tuple(int(item) for item in line.split(" ")[1:3]) for line in told[2:-1])
                track = track_of(*ray)
                self.assertEqual((track.points + track.points[:1])[1:len(points) + 1], points)
                if told[-1] != "on":
                    self.assertEqual(track.end, told[-1])

    def test_the_shorter_one_is_the_beginning_of_the_longer_one(self):
        for ray in rays(162, 30):
            longer = story_of(*ray, 12)
            for steps in range(12):
                shorter = story_of(*ray, steps)
                self.assertEqual(longer[:len(shorter) - 1], shorter[:-1])

    def test_long_stories(self):
        row = Room(ROW, fine=24)
        told = story_of(row, 0, (1, 2), (1, 1), 400)
        self.assertEqual((387, "round"), (len(told), told[-1]))
        self.assertEqual((row, 0, (1, 2), (1, 1), 384), story_in(told))
        self.assertIsNone(wrong_line(told))
        for steps in (383, 384):
            self.assertEqual("on" if steps < 384 else "round", story_of(row, 0, (1, 2), (1, 1), steps)[-1])
            self.assertIsNone(wrong_line(story_of(row, 0, (1, 2), (1, 1), steps)))

    def test_errors(self):
        self.assert_bad(BadRoom, "room", ODD + (5,), lambda value: story_of(value, None, None, None, None))
        self.assert_bad(BadNumber, "square", NO_INTEGERS + (-1, 3), lambda value: story_of(CORNER, value, None, None, None))
        self.assert_bad(BadPlace, "place", NO_POINTS + ((0, 0), (9, 9)),
                        lambda value: story_of(CORNER, 1, value, None, None))
        self.assert_bad(BadWay, "way", NO_POINTS + ((0, 0), (2, 2), (10 ** 12 + 1, 1)),
                        lambda value: story_of(CORNER, 1, (1, 0), value, None))
        self.assert_bad(BadNumber, "steps", NO_INTEGERS + (-1, 401, 10 ** 40),
                        lambda value: story_of(CORNER, 1, (1, 0), (0, 1), value))
        self.assert_raises(Misfit, "place", lambda: story_of(CORNER, 1, (1, 0), (0, 1), 0))


class WrongLines(Checks):

    def test_by_hand(self):
        self.assertIsNone(wrong_line(TOLD))
        self.assertIsNone(wrong_line(lines=list(ROUND)))
        self.assertIsNone(wrong_line(OwnList(ENDED)))
        for lines, told in (
            ([], 0), (TOLD[:1], 1), (TOLD[:2], 2), (TOLD[:4], 4), (TOLD[:5], 5), (TOLD[:2] + TOLD[3:], 2),
            (TOLD + ("on",), 6), (TOLD + ("",), 6), (ROUND[:6] + ("on",), 6), (ROUND[:6], 6), (ROUND[:5] + ("round",), 5),
            (ROUND + ("round",), 7), (ROUND[:6] + ROUND[2:], 6), (ENDED[:4] + ("on",), 4), (ENDED[:4] + ("round",), 4),
            (ENDED[:3] + ("corner",), 3), (ENDED + ("to 1 1 met -",), 5), (TOLD[1:], 0), (TOLD[:2] + ("corner",), 2),
            (TOLD[:2] + ("round",), 2), (["a", "b"], 0), ([""], 0),
        ):
            self.assertEqual(told, wrong_line(lines), lines)
            self.assertEqual(told, wrong_line(list(lines)), lines)

    def test_of_the_first_line(self):
        for line in ("room", "room ", "room fine 2 / 0 0 ", "room  fine 2 / 0 0", "Room fine 2 / 0 0", "fine 2 / 0 0",
                     "room fine 2 / 0 0 / 0 0", "room fine 2 / 1 0 / 0 0", "room fine 02 / 0 0", "room fine 25 / 0 0",
                     "room fine 2 / 0 0 / 5 5", " room fine 2 / 0 0", "room fine 2 / 0 0\n", "room fine 1 / 0 0"):
            self.assertEqual(0, wrong_line((line,) + TOLD[1:]), line)
            self.assertEqual(0, wrong_line([line]), line)
        self.assertEqual(1, wrong_line(["room fine 1 / 0 0 / 0 1"]))

    def test_of_the_second_line(self):
        for line in ("", "from", "from 0 1 0 by 1", "from 0 1 0 by 1 1 ", "from 0 1 0 by 1 1 1", "from  0 1 0 by 1 1",
                     "from 1 1 0 by 1 1", "from -1 1 0 by 1 1", "from 0 0 0 by 1 1", "from 0 9 9 by 1 1",
                     "from 0 1 0 by 2 2", "from 0 1 0 by 0 0", "from 0 1 0 by +1 1", "from 0 1 0 by 01 1",
                     "from 0 1 -0 by 1 1", "from 0 1 0 to 1 1", "to 0 1 0 by 1 1", "from 0 1 0 by 1000000000001 1",
                     "from 0 1.0 0 by 1 1", "from True 1 0 by 1 1", "from 0 1 0 by 1 " + "9" * 200, "on"):
            self.assertEqual(1, wrong_line(TOLD[:1] + (line,) + TOLD[2:]), line)
            self.assertEqual(1, wrong_line([TOLD[0], line]), line)
        # a place of another square
        self.assertEqual(1, wrong_line([ENDED[0], "from 1 1 0 by -1 1"]))
        self.assertEqual(2, wrong_line([ENDED[0], "from 2 1 0 by -1 1"]))

    def test_of_a_step(self):
        for line in ("", "to", "to 2 1 met", "to 2 1 met -", "to 2 1 met e", "to 2 1 met EE", "to 2 1 met E ",
                     "to 2 1  met E", "to 1 2 met E", "to 2 1 met W", "to +2 1 met E", "to 02 1 met E", "To 2 1 met E", "to 2 1 by E",
                     "corner", "round", "off", "to 2 1 met E\n"):
            self.assertEqual(2, wrong_line(TOLD[:2] + (line,) + TOLD[3:]), line)
            self.assertEqual(2, wrong_line(TOLD[:2] + (line,)), line)
        self.assertEqual(3, wrong_line(TOLD[:2] + ("on",) + TOLD[3:]))

    def test_changed_left_out_exchanged_or_cut(self):
        chance = random.Random(163)
        for ray in rays(164, 60):
            told = list(story_of(*ray, chance.choice((0, 1, 4, 9))))
            self.assertIsNone(wrong_line(told))
            for at in range(len(told)):
                self.assertEqual(at, wrong_line(told[:at]))
                self.assertEqual(at, wrong_line(told[:at] + ["?"] + told[at + 1:]))
                self.assertEqual(at, wrong_line(told[:at] + [told[at] + " "] + told[at + 1:]))
                self.assertEqual(at, wrong_line(told[:at] + ["to 99 99 met -"] + told[at + 1:]))
                if at + 1 < len(told):
                    less = told[:at] + told[at + 1:]
                    self.assertEqual(self.first_wrong(less, ray, len(told)), wrong_line(less))
                    turned = told[:at] + [told[at + 1], told[at]] + told[at + 2:]
                    self.assertEqual(self.first_wrong(turned, ray, len(told)), wrong_line(turned))
            self.assertEqual(len(told), wrong_line(told + ["on"]))

    def first_wrong(self, lines, ray, most):
        """The number of the first line with which no story of this ray begins so; None if the lines are one."""
        stories = [story(*ray, steps) for steps in range(most)]
        if tuple(lines) in stories:
            return None
        for at in range(len(lines)):
            if not any(list(told[:at + 1]) == lines[:at + 1] for told in stories):
                return at
        return len(lines)

    def test_great_ways_are_not_followed_for_nothing(self):
        great = ["room fine 2 / 0 0", "from 0 1 0 by 1000000000000 1"]
        self.assertEqual(2, wrong_line(great))
        self.assertIsNone(wrong_line(great + ["on"]))
        self.assertEqual(2, wrong_line(great + ["to 1 1 met -", "on"]))
        self.assertEqual(2, wrong_line(great + ["to 1 1 met " + "EW" * 9000, "on"]))
        self.assertEqual((ONE, 0, (1, 0), (10 ** 12, 1), 0), story_in(great + ["on"]))
        for room in (ONE, Room(ROW), Room(ROW, fine=3), Room(BLOCK, fine=24)):
            place = places_of(room)[0]
            for way in ((4001, 1), (-1, 3000), (399, -1000), (24 * 8 * 3 + 1, 1), (48 + 1, 48)):
                told = story_of(room, squares_at(room, place)[0], place, way, 2)
                self.assertIsNone(wrong_line(told))

    def test_errors(self):
        for call in (wrong_line, story_in):
            self.assert_bad(BadWord, "lines", NO_LINES, call)


class ReadBack(Checks):

    def test_what_was_told(self):
        for ray in rays(165, 80):
            for steps in (0, 1, 7):
                told = story_of(*ray, steps)
                room, square, place, way, many = story_in(told)
                self.assertTrue(room == ray[0])
                self.assertEqual(ray[1:], (square, place, way))
                self.assertEqual(len(told) - 3, many)
                self.assertEqual(told, story_of(room, square, place, way, many))
                self.assertEqual((tuple, tuple), (place.__class__, way.__class__))

    def test_by_hand(self):
        self.assertEqual((ONE, 0, (1, 0), (1, 1), 3), story_in(TOLD))
        self.assertEqual((ONE, 0, (1, 0), (1, 1), 4), story_in(lines=list(ROUND)))
        self.assertEqual((CORNER, 0, (1, 0), (-1, 1), 2), story_in(ENDED))

    def test_no_stories(self):
        for lines in ([], ["a"], TOLD[:4], TOLD[1:], TOLD + ("on",), ROUND[:5] + ("round",), ENDED[:3] + ("corner",)):
            self.assert_raises(BadWord, "lines", lambda: story_in(lines))


class Shown(Checks):

    def test_by_hand(self):
        for value, told in ((TOLD, True), (list(TOLD), True), (ROUND, True), (TOLD[:4], False), (ENDED, False), ([], False)):
            self.assertIs(told, shows_story(ONE, value))
        self.assertIs(True, shows_story(value=ENDED, room=CORNER))
        self.assertIs(False, shows_story(Room([(0, 0)], fine=3), TOLD))
        self.assertIs(False, shows_story(Room([(0, 1)], fine=2), TOLD))
        slit = Room(BLOCK, [((1, 0), (1, 1))], 2)
        told = story_of(slit, 0, (1, 0), (1, 1), 3)
        self.assertIs(True, shows_story(slit, told))
        self.assertIs(False, shows_story(Room(BLOCK, fine=2), told))

    def test_any_value(self):
        for value in NO_LINES + ODD:
            self.assertIs(False, shows_story(ONE, value))

    def test_errors(self):
        self.assert_bad(BadRoom, "room", ODD + (5,), lambda value: shows_story(value, TOLD))

    def test_what_is_passed_stays(self):
        lines, place = list(TOLD), [1, 0]
        wrong_line(lines), story_in(lines), shows_story(ONE, lines), story_of(ONE, 0, place, [1, 1], 3)
        self.assertEqual((list(TOLD), [1, 0]), (lines, place))


if __name__ == "__main__":
    unittest.main()
