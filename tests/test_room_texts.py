"""Texts of rooms, and the first item that cannot stand."""

import unittest

from common import BLOCK, ODD, RING, ROW, Checks, grown_rooms

from neverhit.rooms import Room

NO_NUMERALS = (
    "", "x", "/", "shut", "fine", "00", "01", "-0", "-01", "+1", "--1", "-", "1.0", "1_0", "0x1", "1\n", "\t1", "1\u00b2",
    "\u0661", "\u2212" + "1", "1" * 140, "-" + "1" * 140, "1" * 141, "1" * 10000, "0" * 140, "True", "1-", "None",
)


class Writing(Checks):

    def test_text(self):
        self.assertEqual("fine 1 / 0 0", str(Room([(0, 0)])))
        self.assertEqual("fine 24 / -99 99", str(Room([(-99, 99)], fine=24)))
        room = Room(BLOCK, [((1, 1), (0, 1))], 7)
        self.assertEqual("fine 7 / 0 0 / 0 1 / 1 0 / 1 1 / shut 0 1 1 1", str(room))
        squares = [(i, j) for i in (-1, 0, 1) for j in (0, 1)]
        shut = [((1, 0), (1, 1)), ((-1, 0), (-1, 1))]
        self.assertEqual("fine 1 / -1 0 / -1 1 / 0 0 / 0 1 / 1 0 / 1 1 / shut -1 0 -1 1 / shut 1 0 1 1",
                         str(Room(squares, shut)))


class Reading(Checks):

    def test_every_text_is_read(self):
        for room in grown_rooms(4, 80, tuple(range(1, 25))) + [Room(RING), Room(ROW, (), 24)]:
            read = Room.read(str(room))
            self.assertTrue(read == room)
            self.assertEqual((str(room), room.many), (str(read), read.many))
        self.assertEqual(((3, 4),), Room.read(text="fine 1 / 3 4").squares)
        self.assertEqual(5, Room([(0, 0)]).read("fine 5 / 3 4").fine)

    def test_what_is_no_string(self):
        for value in ODD + (5, [], ["fine", "1", "/", "0", "0"], b"fine 1 / 0 0", Room([(0, 0)])):
            if not isinstance(value, str):
                self.assert_bad_text(0, Room.read, value)

    def test_empty_texts_and_items(self):
        for text, item in (
            ("", 0), (" ", 0), (" fine 1 / 0 0", 0), ("fine  1 / 0 0", 1), ("fine 1  / 0 0", 2), ("fine 1 /  0 0", 3),
            ("fine 1 / 0  0", 4), ("fine 1 / 0 0 ", 5), ("fine 1 / 0 0  / 0 1", 5), ("fine 1 / 0 0 / ", 6),
        ):
            self.assert_bad_text(item, Room.read, text)

    def test_a_missing_item(self):
        whole = "fine 2 / 0 0 / 0 1 / 1 0 / 1 1 / shut 0 0 0 1".split(" ")
        short = (2, 5, 8, 11, 14)
        for many in range(1, len(whole)):
            if many in short[1:]:
                self.assertIsNotNone(Room.read(" ".join(whole[:8])))
            else:
                self.assert_bad_text(many, Room.read, " ".join(whole[:many]))

    def test_an_item_that_is_not_of_its_form(self):
        whole = "fine 2 / 0 0 / 0 1 / 1 0 / 1 1 / shut 0 0 0 1".split(" ")
        for at, item in enumerate(whole):
            for other in NO_NUMERALS + (() if at == 15 else ("Fine", "//", "Shut", "finer")):
                # behind the first square a shut side may stand in the place of any other one
                if other != item and not (other == "shut" and at in (6, 9, 12)):
                    self.assert_bad_text(at, Room.read, " ".join(whole[:at] + [other] + whole[at + 1:]))
        for at in (0, 2, 5, 8, 11, 14):
            for other in ("0", "5", "-1"):
                self.assert_bad_text(at, Room.read, " ".join(whole[:at] + [other] + whole[at + 1:]))
        for at in (6, 9, 12):
            self.assert_bad_text(at + 2, Room.read, " ".join(whole[:at] + ["shut"] + whole[at + 1:]))
        self.assert_bad_text(17, Room.read, " ".join(whole[:15] + ["5"] + whole[16:]))

    def test_bounds(self):
        for number in ("0", "25", "-1", "1000000", "9" * 140):
            self.assert_bad_text(1, Room.read, f"fine {number} / 0 0")
        for number in ("100", "-100", "9" * 140, "-" + "9" * 140):
            self.assert_bad_text(3, Room.read, f"fine 1 / {number} 0")
            self.assert_bad_text(4, Room.read, f"fine 1 / 0 {number}")
            self.assert_bad_text(7, Room.read, f"fine 1 / 0 0 / 0 {number}")
            for at in range(4):
                told = ["0", "0", "0", "1"]
                told[at] = number
                self.assert_bad_text(10 + at, Room.read, "fine 1 / 0 0 / 0 1 / shut " + " ".join(told))
        for number in (99, -99):
            self.assertEqual(((number, number),), Room.read(f"fine 1 / {number} {number}").squares)

    def test_one_item_too_many(self):
        self.assert_bad_text(5, Room.read, "fine 1 / 0 0 0")
        self.assert_bad_text(8, Room.read, "fine 1 / 0 0 / 0 1 1")
        self.assert_bad_text(20, Room.read, "fine 1 / 0 0 / 0 1 / 1 0 / 1 1 / shut 0 0 0 1 0")
        self.assert_bad_text(19, Room.read, "fine 1 / 0 0 / 0 1 / 1 0 / 1 1 / shut 0 0 0 x 0")

    def test_no_room_without_a_square(self):
        self.assert_bad_text(3, Room.read, "fine 1 / shut 0 0 0 1")
        self.assert_bad_text(2, Room.read, "fine 1")
        self.assert_bad_text(3, Room.read, "fine 1 /")
        self.assert_bad_text(2, Room.read, "fine 1 shut 0 0 0 1")

    def test_no_square_behind_eight_or_behind_a_shut_side(self):
        row = str(Room(ROW))
        self.assert_bad_text(27, Room.read, row + " / 8 0")
        self.assert_bad_text(27, Room.read, row + " /")
        self.assert_bad_text(26, Room.read, row + " 8 0")
        self.assert_bad_text(32, Room.read, row + " / shut 0 0 1 0 x")
        self.assert_bad_text(15, Room.read, "fine 1 / 0 0 / 0 1 / shut 0 0 0 1 / 1 1")
        ring = str(Room(RING))
        self.assertEqual(1, len(Room.read(ring + " / shut 0 0 0 1").shut))

    def test_what_only_the_whole_shows(self):
        for text in (
            "fine 1 / 1 0 / 0 0", "fine 1 / 0 0 / 0 0", "fine 1 / 0 0 / 1 1", "fine 1 / 0 1 / 0 0 / 1 1",
            "fine 1 / 0 0 / 0 1 / shut 0 0 0 1", "fine 1 / 0 0 / 0 1 / shut 5 5 5 6", "fine 1 / 0 0 / shut 0 0 0 0",
            "fine 1 / 0 0 / 0 1 / 1 0 / 1 1 / shut 0 1 0 0", "fine 1 / 0 0 / 0 1 / 1 0 / 1 1 / shut 0 0 1 1",
            "fine 1 / 0 0 / 0 1 / 1 0 / 1 1 / shut 0 0 0 1 / shut 0 0 0 1",
            "fine 1 / 0 0 / 0 1 / 0 2 / 1 0 / 1 1 / 1 2 / shut 0 1 0 2 / shut 0 0 0 1",
            "fine 1 / 0 0 / shut 0 0 0 1 / shut 0 0 0 1 / shut 0 0 0 1 / shut 0 0 0 1",
        ):
            self.assert_bad_text(len(text.split(" ")) - 1, Room.read, text)
        text = "fine 1 / 0 0 / 0 1 / 0 2 / 1 0 / 1 1 / 1 2 / shut 0 0 0 1 / shut 0 1 0 2"
        self.assertEqual(text, str(Room.read(text)))

    def test_form_goes_ahead_of_what_only_the_whole_shows(self):
        self.assert_bad_text(9, Room.read, "fine 1 / 1 0 / 0 0 / x 0")
        self.assert_bad_text(8, Room.read, "fine 1 / 0 0 / 0 0 5")


if __name__ == "__main__":
    unittest.main()
