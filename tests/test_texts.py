"""The integers of texts, and items at their places."""

import unittest

from common import AlwaysEqual, Checks, OwnList

from neverhit.texts import are_lines, is_numeral, items_of, need_end, need_word, number_at

LONG = "9" * 140


class Texts(Checks):

    def test_integers_as_they_are_written(self):
        for item in ("0", "7", "-7", "10", "-10", "909", LONG, "-" + LONG, "1" + "0" * 139):
            self.assertIs(True, is_numeral(item))
            self.assertEqual(int(item), number_at(["x", item], 1, None, None))
        for item in ("", "-", "+1", "-0", "00", "01", "-01", "1.", "1_0", " 1", "1 ", "--1", "1-", "\u0661", "\u00b2", "a",
                     LONG + "9", "-" + LONG + "9", "0" * 140, "1" * 20000):
            self.assertIs(False, is_numeral(item))
            self.assert_bad_text(1, lambda text: number_at(["x", text], 1, None, None), item)

    def test_bounds_and_missing_items(self):
        self.assertEqual([3, 5], [number_at(["3", "5"], at, 3, 5) for at in (0, 1)])
        self.assert_bad_text(0, lambda text: number_at([text], 0, 3, 5), "2")
        self.assert_bad_text(0, lambda text: number_at([text], 0, 3, 5), "6")
        self.assert_bad_text(1, lambda text: number_at([text], 1, 3, 5), "4")

    def test_words_and_ends(self):
        need_word(["a", "b"], 1, "b")
        need_end(["a", "b"], 2)
        self.assert_bad_text(1, lambda text: need_word(["a", text], 1, "b"), "c")
        self.assert_bad_text(2, lambda text: need_word(["a", text], 2, "b"), "b")
        self.assert_bad_text(1, lambda text: need_end(["a", text], 1), "b")

    def test_items(self):
        self.assertEqual(["a", "", "b", ""], items_of("a  b "))
        self.assertEqual([""], items_of(""))
        self.assertEqual(["a\tb\n"], items_of("a\tb\n"))
        self.assert_bad_text(0, items_of, None)

    def test_lists_of_strings(self):
        for value in ([], (), [""], ("a", "b"), OwnList(["a b", "c"])):
            self.assertIs(True, are_lines(value))
        for value in (None, True, 5, "a", b"a", ["a", None], ["a", b"b"], [["a"]], [1], {"a": "b"}, {"a"}, AlwaysEqual()):
            self.assertIs(False, are_lines(value))


if __name__ == "__main__":
    unittest.main()
