"""How long it takes: what is promised in a short time, at the sizes that are let.

The bounds are many times what is needed, so that a slow machine does not break them.
"""

import time
import unittest

from common import BLOCK, RING, ROW, SLAB

from neverhit.bands import bands_of, end_of, met_by
from neverhit.books import Book, books_from, lean_mark, lean_sheet
from neverhit.changed import finer, finer_point, mirrored, moved, shut_up, turned, turned_point
from neverhit.check_doors import shows_doors, shows_opened
from neverhit.check_folds import shows_fold
from neverhit.check_guards import shows_thin
from neverhit.check_judged import shows_judged
from neverhit.check_screens import shows_fewest, shows_screened
from neverhit.checks import is_way
from neverhit.desks import Desk
from neverhit.doors import all_doors, darkened, door_table, lightened
from neverhit.folds import folds_of, folds_onto, points_up
from neverhit.guards import guards_of, needless, shots_past, stops_all, thinned
from neverhit.judged import Lit, judged
from neverhit.makers import alike, dark_rooms, least_room, rooms_of, shut_lots
from neverhit.maps import dark_from, see_table
from neverhit.nearest import homeward, rays_within, shortest
from neverhit.pictures import picture_of, picture_of_track, plan_of
from neverhit.places import places_of, points_in, squares_at
from neverhit.rays import bounces_of, met_first, stand_after, track_of, turned_back
from neverhit.rooms import Room, open_sides, walls_of
from neverhit.screens import fewest_posts, screened
from neverhit.sheets import Sheet, marks_of, onward, sheet_of
from neverhit.stories import shows_story, story_in, story_of, wrong_line

SHORT = 30
LARGE = [Room(squares, (), 24) for squares in (RING, ROW, SLAB)]


class Speed(unittest.TestCase):

    def setUp(self):
        self.begun = time.monotonic()

    def tearDown(self):
        self.assertLess(time.monotonic() - self.begun, SHORT)

    def test_many_steps(self):
        for room in LARGE:
            for way in ((1, 0), (9, 1), (-3, 7)):
                place = places_of(room)[30]
                ray = (room, squares_at(room, place)[0], place, way)
                track = track_of(*ray)
                if track.end == "round":
                    self.assertEqual(stand_after(*ray, 20000 % len(track.points)), stand_after(*ray, 20000))
                    turned_back(*ray, 20000)
                bounces_of(*ray, 20000)

    def test_ways_far_out(self):
        room = Room(SLAB)
        for way, steps in (((199999, 1), 1), ((-99999, 100001), 1), ((1, -49999), 4), ((10 ** 12, 1), 0)):
            bounces_of(room, 0, (0, 1), way, steps)
            if steps == 0:
                self.assertEqual((1, (0, 1), way), stand_after(room, 0, (0, 1), way, steps))

    def test_long_tracks_and_many_posts(self):
        for room in LARGE:
            for place in ((1, 1), (5, 7), (12, 11)):
                for way in ((1, 1), (2, 3), (7, 5)):
                    x, y = room.squares[0][0] * 24 + place[0], room.squares[0][1] * 24 + place[1]
                    points = track_of(room, 0, (x, y), way).points
                    posts = [point for point in places_of(room) if point not in points][:60]
                    self.assertIsNone(met_first(room, 0, (x, y), way, posts))

    def test_rooms_of_all_sizes(self):
        for room in LARGE:
            for _ in range(20):
                self.assertTrue(Room.read(str(room)) == room)
                open_sides(room), walls_of(room), points_in(room), places_of(room), sheet_of(room)
                moved(room, (50, 50)), turned(room, 3), mirrored(room), turned_point(room, 10 ** 40, (24, 24))
                marks_of(room, (24, 24))
        for _ in range(200):
            finer(shut_up(Room(BLOCK), ((0, 0), (0, 1))), 24)

    def test_sheets_of_400_squares(self):
        row = Sheet([(n + 1) % 400 for n in range(400)], list(range(400)), [0] * 400)
        for _ in range(20):
            self.assertTrue(Sheet.read(str(row)) == row)
            onward(row, 1, (0, 0, 0), (999, 1000))

    def test_ways_of_any_size(self):
        for _ in range(2000):
            is_way((10 ** 12, 10 ** 12 - 1))
            is_way((10 ** 1000, 10 ** 1000 + 1))

    def test_many_books_are_judged_and_checked(self):
        ring, double = Room(RING), Room(RING, fine=2)
        posts = guards_of(ring, (0, 1), (0, 2))
        paper = judged(double, (0, 2), (0, 4), posts)
        self.assertEqual(864, len(paper.books))
        self.assertTrue(shows_judged(double, (0, 2), (0, 4), posts, paper))

    def test_needless_posts_of_two_and_of_three_squares(self):
        for many, most, points in ((2, 12, ((1, 1), (3, 1))), (3, 6, ((1, 0), (2, 2)))):
            room = Room([(n, 0) for n in range(many)], fine=2)
            double, ends = finer(room, 2), [finer_point(room, 2, point) for point in points]
            posts = list(thinned(double, *ends, guards_of(room, *points)).posts)
            left = [point for point in points_in(double) if point not in posts + ends]
            more = posts + left[3::4][:most - len(posts)]
            self.assertEqual(most, len(more))
            self.assertTrue(stops_all(double, *ends, more))
            needless(double, *ends, more), thinned(double, *ends, more), shots_past(double, *ends, more)

    def test_far_ways_by_leaning(self):
        room = Room(SLAB, fine=24)
        posts = points_in(room)[100:160]
        for way in ((10 ** 12, 10 ** 12 - 1), (999999999989, 500000000003), (832040, 514229), (1, 10 ** 12)):
            for _ in range(10):
                bands_of(room, way), end_of(room, 0, (1, 2), way), met_by(room, 0, (1, 2), way, posts)
                shows_judged(room, (1, 2), (7, 9), posts, Lit(0, way, 5))

    def test_leaning_sheets_of_400_squares(self):
        row = Sheet([(n + 1) % 400 for n in range(400)], list(range(400)), [0] * 400)
        for times in range(0, 10 ** 12, 10 ** 11):
            lean_sheet(row, "a", times), lean_mark(row, 24, (7, 23, 1), "a", times)
        self.assertEqual(720, len(books_from(Book(row, 1, [(0, 0, 0)], [], []))))

    def test_sights_and_the_shortest_of_them(self):
        room = Room([(0, 0), (0, 1), (1, 1), (1, 2), (2, 2)])
        rays_within(room, (0, 1), (2, 3), (), 2000)
        for _ in range(5):
            self.assertEqual(48, len(shortest(room, (0, 1), (2, 3)).books))
            shortest(Room(SLAB, fine=4), (1, 1), (7, 15), [(x, 3) for x in range(9)])
        sights = ((484, 0, (-1, 0), 22), (676, 0, (0, -1), 26))
        self.assertEqual(sights, homeward(Room(SLAB, fine=24), (11, 13), 2000))

    def test_maps(self):
        for room in (Room([(0, 0), (1, 0), (2, 0)], fine=3), Room([(0, 0), (1, 0), (0, 1)], fine=3), Room(BLOCK, fine=2)):
            table = see_table(room)
            self.assertEqual(len(places_of(room)), len(table))
        # more than 4,000 books come of some of these lamps
        room = Room([(0, 0), (0, 1), (0, 2), (0, 3), (1, 1)], fine=2)
        lamps = places_of(room)[:4]
        self.assertEqual((), dark_from(room, lamps[0]) + dark_from(room, lamps[3]))

    def test_folds(self):
        row = Room(ROW, fine=24)
        for _ in range(20):
            self.assertEqual(4, len(folds_of(row, Room([(0, 0)], fine=24))))
            rows = folds_onto(row, Room([(n, 0) for n in range(4)], fine=24)).rows
            points_up(row, Room([(n, 0) for n in range(4)], fine=24), rows, (30, 7))
            self.assertTrue(shows_fold(row, Room([(0, 0)], fine=24), folds_onto(row, Room([(0, 0)], fine=24))))

    def test_doors_of_four_squares(self):
        block = Room(BLOCK, fine=2)
        posts, told = guards_of(block, (2, 3), (1, 1)), (finer(block, 2), (4, 6), (2, 2))
        self.assertEqual((11, 0, 0, 5), all_doors(*told, posts))
        for some in (posts, posts[1:], posts[::2]):
            door_table(*told, some)
            for paper in (darkened(*told, some, 3), lightened(*told, some, 3)):
                check = shows_doors if paper.word in ("doors", "nodoors") else shows_opened
                self.assertTrue(check(*told, some, 3, paper))

    def test_pictures(self):
        stairs = Room([(n // 2, (n + 1) // 2) for n in range(8)], fine=24)
        for room in LARGE + [stairs]:
            points = points_in(room)
            plan_of(room), picture_of(room, None, None, points[:60])
            picture_of_track(room, 0, (room.squares[0][0] * 24 + 1, room.squares[0][1] * 24 + 1), (7, 5))

    def test_desks(self):
        slab = Room(SLAB, fine=4)
        posts = points_in(slab)[20:80]
        lines = [f"new s {slab}", "lamp s 1 1", "wish s 7 15"] + ["post s {} {}".format(*post) for post in posts]
        lines += [f"copy s{n} s" for n in range(30)] + [f"bare s{n % 30}" for n in range(200 - len(lines) - 30)]
        desk = Desk.read(lines)
        self.assertEqual(200, len(desk.lines()))
        for word in ["undo"] * 200 + ["redo"] * 200:
            desk.tell(word)
        self.assertTrue(desk == desk.twin())
        self.assertTrue(desk == Desk.read(lines))

    def test_screens_of_two_squares(self):
        two = Room([(0, 0), (1, 0)], fine=2)
        places = places_of(two)
        for many, others, points in ((1, 2, 12), (2, 2, 6), (1, 1, 12), (6, 4, 1), (3, 2, 4)):
            told = (two, places[:many], places[-others:])
            left = [point for point in points_in(two) if point not in told[1] + told[2]][:points]
            shows_screened(*told, left, screened(*told, left))
            self.assertTrue(shows_fewest(*told, left, 3, fewest_posts(*told, left, 3)))
        middle = [(2, 0), (2, 1), (2, 2), (1, 1), (3, 1), (0, 0), (1, 0), (3, 2), (4, 0), (4, 2), (1, 2), (3, 0)]
        for _ in range(5):
            self.assertEqual("screen", fewest_posts(two, [(0, 1)], [(4, 1)], middle, 3).word)

    def test_makers(self):
        self.assertEqual(2, len(dark_rooms(5)))
        for room in LARGE:
            for _ in range(5):
                shut_lots(room), least_room(room), alike(room, turned(room, 3))
        for _ in range(5):
            self.assertEqual(35, len(rooms_of(6)))

    def test_dark_rooms_of_six_squares(self):
        self.assertEqual((), dark_rooms(6))

    def test_stories(self):
        for room in LARGE:
            for way in ((1, 1), (499, 2), (-13, 487)):
                square = squares_at(room, points_in(room)[30])[0]
                told = story_of(room, square, points_in(room)[30], way, 400)
                self.assertIsNone(wrong_line(told))
                self.assertEqual(told, story_of(*story_in(told)))
                self.assertTrue(shows_story(room, told))
                self.assertEqual(len(told), wrong_line(told + ("on",)))
        self.assertEqual(2, wrong_line([f"room {LARGE[0]}", "from 0 1 1 by 1000000000000 1", "to 1 1 met " + "E" * 19000]))

    def test_thin_posts(self):
        room = Room([(0, 0), (1, 0)], fine=2)
        posts, double = guards_of(room, (1, 1), (3, 1)), finer(room, 2)
        self.assertTrue(shows_thin(double, (2, 2), (6, 2), posts, thinned(double, (2, 2), (6, 2), posts)))


if __name__ == "__main__":
    unittest.main()
