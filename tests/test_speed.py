"""How long it takes: what is promised in a short time, at the sizes that are let.

The bounds are many times what is needed, so that a slow machine does not break them.
"""

import time
import unittest

from common import BLOCK, RING, ROW, SLAB

from neverhit.changed import finer, mirrored, moved, shut_up, turned, turned_point
from neverhit.checks import is_way
from neverhit.places import places_of, points_in, squares_at
from neverhit.rays import bounces_of, met_first, stand_after, track_of, turned_back
from neverhit.rooms import Room, open_sides, walls_of
from neverhit.sheets import Sheet, marks_of, onward, sheet_of

SHORT = 5
LARGE = [Room(squares, (), 24) for squares in (RING, ROW, SLAB)]


class Speed(unittest.TestCase):

    def setUp(self):
        self.begun = time.monotonic()

    def tearDown(self):
        self.assertLess(time.monotonic() - self.begun, SHORT)

    def test_many_steps(self):
        for room in LARGE:
            for way in ((1, 0), (9, 1), (-3, 7)):
                place = places_of(room)[30]
                ray = (room, squares_at(room, place)[0], place, way)
                track = track_of(*ray)
                if track.end == "round":
                    self.assertEqual(stand_after(*ray, 20000 % len(track.points)), stand_after(*ray, 20000))
                    turned_back(*ray, 20000)
                bounces_of(*ray, 20000)

    def test_ways_far_out(self):
        room = Room(SLAB)
        for way, steps in (((199999, 1), 1), ((-99999, 100001), 1), ((1, -49999), 4), ((10 ** 12, 1), 0)):
            bounces_of(room, 0, (0, 1), way, steps)
            if steps == 0:
                self.assertEqual((1, (0, 1), way), stand_after(room, 0, (0, 1), way, steps))

    def test_long_tracks_and_many_posts(self):
        for room in LARGE:
            for place in ((1, 1), (5, 7), (12, 11)):
                for way in ((1, 1), (2, 3), (7, 5)):
                    x, y = room.squares[0][0] * 24 + place[0], room.squares[0][1] * 24 + place[1]
                    points = track_of(room, 0, (x, y), way).points
                    posts = [point for point in places_of(room) if point not in points][:60]
                    self.assertIsNone(met_first(room, 0, (x, y), way, posts))

    def test_rooms_of_all_sizes(self):
        for room in LARGE:
            for _ in range(20):
                self.assertTrue(Room.read(str(room)) == room)
                open_sides(room), walls_of(room), points_in(room), places_of(room), sheet_of(room)
                moved(room, (50, 50)), turned(room, 3), mirrored(room), turned_point(room, 10 ** 40, (24, 24))
                marks_of(room, (24, 24))
        for _ in range(200):
            finer(shut_up(Room(BLOCK), ((0, 0), (0, 1))), 24)

    def test_sheets_of_400_squares(self):
        row = Sheet([(n + 1) % 400 for n in range(400)], list(range(400)), [0] * 400)
        for _ in range(20):
            self.assertTrue(Sheet.read(str(row)) == row)
            onward(row, 1, (0, 0, 0), (999, 1000))

    def test_ways_of_any_size(self):
        for _ in range(2000):
            is_way((10 ** 12, 10 ** 12 - 1))
            is_way((10 ** 1000, 10 ** 1000 + 1))


if __name__ == "__main__":
    unittest.main()
