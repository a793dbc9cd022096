"""What the parts of the program tell of one room, lamp and wish agrees, as the overview of the document promises."""

import random
import unittest

from common import BENT, BLOCK, ELL, GATES, Checks, grown_rooms

from neverhit.bands import end_of, met_by
from neverhit.changed import finer, finer_point, mirrored, mirrored_point, turned, turned_point
from neverhit.check_judged import shows_judged
from neverhit.desks import Desk
from neverhit.doors import darkened, door_word, lightened
from neverhit.errors import TooMany
from neverhit.folds import folds_of, point_down, points_up
from neverhit.guards import guards_of, stops_all, thinned
from neverhit.judged import judged
from neverhit.makers import alike, dark_rooms, least_room, rooms_of
from neverhit.maps import dark_from, lit_from
from neverhit.nearest import rays_within, shortest
from neverhit.pictures import picture_of
from neverhit.places import places_of, points_in
from neverhit.rays import bounces_of, length_of, met_first, track_of
from neverhit.rooms import Room
from neverhit.screens import Screen, fewest_posts, screened
from neverhit.stories import shows_story, story_of

LIKE_W, LIKE_U = [room for room, _ in dark_rooms(5)][::-1]


def cases(seed, many):
    """So many rooms, each with a lamp, a wish and posts; some of them dark."""
    chance = random.Random(seed)
    rooms = [room for room in grown_rooms(seed, many * 3, (1, 1, 2)) if room.many < 6]
    half = Room(BLOCK, [((0, 0), (0, 1))])
    found = [(LIKE_W, (0, 1), (2, 3), ()), (LIKE_U, (2, 1), (0, 1), ()), (half, (1, 0), (1, 2), ((2, 1),))]
    for room in rooms + [Room(*BENT), Room(*GATES)]:
        places = places_of(room)
        if len(places) > 1 and len(found) < many:
            lamp, wish = chance.sample(places, 2)
            points = [point for point in points_in(room) if point not in (lamp, wish)]
            found.append((room, lamp, wish, tuple(chance.sample(points, min(len(points), chance.choice((0, 0, 2, 9)))))))
    return found


def desk_of(room, lamp, wish, posts):
    """A desk that keeps all of this by the name r."""
    desk = Desk()
    for line in ["new r " + str(room), "lamp r {} {}".format(*lamp), "wish r {} {}".format(*wish)]:
        desk.tell(line)
    for post in posts:
        desk.tell("post r {} {}".format(*post))
    return desk


class OneAnswer(Checks):

    def test_lit_or_dark_whoever_is_asked(self):
        words = {}
        for case in cases(200, 60):
            room, lamp, wish, posts = case
            paper = judged(*case)
            words[paper.word] = words.get(paper.word, 0) + 1
            self.assertTrue(shows_judged(*case, paper))
            self.assertEqual(paper.word, judged(room, wish, lamp, posts).word)
            self.assertEqual(paper.word, shortest(*case).word)
            self.assertEqual(paper.word, door_word(*case, []))
            self.assertEqual(bool(paper), lightened(*case, 0).word == "opened")
            self.assertEqual(bool(paper), darkened(*case, 0).word == "nodoors")
            self.assertEqual(not paper, bool(screened(room, [lamp], [wish], posts)))
            self.assertEqual(not paper, stops_all(*case))
            self.assertTrue(paper or not rays_within(*case, 400))
            few = fewest_posts(room, [wish], [lamp], posts, 0)
            self.assertEqual("noscreen" if judged(room, lamp, wish) else "screen", few.word)
            if not posts:
                self.assertEqual(bool(paper), wish in lit_from(room, lamp))
                self.assertEqual(not paper, wish in dark_from(room, lamp))
        self.assertGreater(min(words.values()), 4)

    def test_rays_of_papers_as_tracks_bands_and_stories_tell_them(self):
        for case in cases(201, 40):
            room, lamp, wish, posts = case
            for paper in (judged(*case), shortest(*case)):
                if not paper:
                    continue
                ray = (room, paper.square, lamp, paper.way)
                track = track_of(*ray)
                self.assertEqual(wish, track.points[paper.steps])
                self.assertEqual((track.end, len(track.points) - (track.end == "corner")), end_of(*ray))
                self.assertEqual(met_by(*ray, posts + (wish,)), met_first(*ray, posts + (wish,)))
                self.assertEqual(wish, met_first(*ray, posts + (wish,))[1])
                story = story_of(*ray, min(paper.steps, 400))
                self.assertTrue(shows_story(room, story))
                self.assertEqual("to {} {}".format(*wish), " ".join(story[-2].split(" ")[:3]))
                self.assertEqual(len(bounces_of(*ray, paper.steps)), sum(
                    len(line.split(" ")[4].replace("-", "")) for line in story[2:-1]))

    def test_the_shortest_one_is_the_least_sight(self):
        for case in cases(202, 40):
            paper = shortest(*case)
            if paper:
                length = length_of(paper.way, paper.steps)
                self.assertLessEqual(length, 2500)
                if length <= 2000:
                    self.assertEqual((length, *paper.parts), rays_within(*case, length)[0])
                self.assertEqual((), rays_within(*case, min(length, 2001) - 1) if length > 1 else ())

    def test_a_desk_tells_the_same(self):
        for case in cases(203, 40):
            room, lamp, wish, posts = case
            desk = desk_of(*case)
            self.assertEqual(judged(*case).word, desk.tell("seen r"))
            paper = shortest(*case)
            told = "{} {} {} {}".format(paper.square, *paper.way, paper.steps) if paper else "dark"
            self.assertEqual(told, desk.tell("near r"))
            self.assertTrue(room == desk.room("r") and desk.tell("room r") == str(room))
            self.assertEqual((lamp, wish, tuple(sorted(posts))), desk.marks("r"))
            for most in (0, 1):
                doors = darkened(*case, most)
                sides = " / ".join("{} {} {} {}".format(*one, *other) for one, other in doors.sides) if doors else "no"
                self.assertEqual(sides or "-", desk.tell(f"doors r {most}"))
            picture = picture_of(room, *desk.marks("r"))
            self.assertEqual(len(posts), "".join(picture).count("P"))


class Guarded(Checks):

    def test_guards_stop_all_whoever_is_asked(self):
        for room, lamp, wish, _ in cases(204, 25):
            guards = guards_of(room, lamp, wish)
            double, ends = finer(room, 2), [finer_point(room, 2, point) for point in (lamp, wish)]
            if len(guards) > 20:
                continue
            try:
                paper = judged(double, *ends, guards)
            except TooMany:
                continue
            self.assertEqual("dark", paper.word)
            self.assertTrue(screened(double, ends[:1], ends[1:], guards))
            self.assertEqual((), rays_within(double, *ends, guards, 300))
            desk = desk_of(room, lamp, wish, ())
            self.assertEqual([str(len(guards)), "dark", "dark", "-"],
                             [desk.tell(line) for line in ("guard r", "seen r", "near r", "doors r 0")])
            thin = thinned(double, *ends, guards).posts
            if len(thin) < 4:
                self.assertTrue(fewest_posts(double, ends[:1], ends[1:], thin, 3) == Screen(thin))


class MovedAndFolded(Checks):

    def test_alike_rooms_have_alike_light(self):
        for room, lamp, wish, posts in cases(205, 30):
            word = judged(room, lamp, wish, posts).word
            other = mirrored(turned(room, 1))
            led = [mirrored_point(turned(room, 1), turned_point(room, 1, point)) for point in (lamp, wish, *posts)]
            self.assertEqual(word, judged(other, led[0], led[1], led[2:]).word)
            self.assertEqual("alike", alike(room, other).word)
            self.assertTrue(least_room(room) == least_room(other))

    def test_what_is_dark_in_the_ground_is_dark_in_the_room(self):
        room = Room([(0, 0), (1, 0), (2, 0), (3, 0), (0, 1), (3, 1)])
        ground = Room(ELL)
        rows = folds_of(room, ground)[0]
        self.assertEqual((0, 1), point_down(room, ground, rows, 1, (0, 1)))
        self.assertEqual("lit", judged(room, (0, 1), (1, 0)).word)
        # the two halves of the room twice as fine, posts at all guards of the ground
        double, below = finer(room, 2), finer(ground, 2)
        guards = guards_of(ground, (0, 1), (1, 0))
        posts = sorted({point for guard in guards for point in points_up(double, below, rows, guard)})
        self.assertEqual("dark", judged(double, (0, 2), (2, 0), posts).word)

    def test_dark_rooms_are_dark_whoever_is_asked(self):
        for room, pairs in dark_rooms(5):
            self.assertIn(str(room), [str(other) for other in rooms_of(5)])
            for lamp, wish in pairs:
                self.assertEqual("dark", judged(room, lamp, wish).word)
                self.assertTrue(screened(room, [lamp, wish], [wish, lamp], ()))
                self.assertTrue(darkened(room, lamp, wish, (), 0).sides == ())


if __name__ == "__main__":
    unittest.main()
