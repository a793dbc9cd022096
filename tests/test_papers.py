"""Papers and denials; lists made tuples."""

import unittest

from common import ODD, AlwaysEqual, nested

from neverhit.papers import Denial, Paper, fixed
from neverhit.rays import Track


class Fixed(unittest.TestCase):

    def test_lists_become_tuples_all_the_way_in(self):
        self.assertEqual((), fixed([]))
        self.assertEqual((1, (2, (3, ((),)))), fixed([1, [2, (3, [[]])]]))
        self.assertEqual(((1,), (2,)), fixed(([1], (2,))))
        told = fixed(([1], [[2]]))
        self.assertEqual([tuple] * 4, [value.__class__ for value in (told, told[0], told[1], told[1][0])])

    def test_deep_values(self):
        value = fixed(nested(30))
        for _ in range(30):
            self.assertIs(tuple, value.__class__)
            value = value[0] if value else value
        self.assertEqual((), value)

    def test_other_values_stay(self):
        for value in (True, None, 7, "a", b"a", 1.5, object(), len):
            self.assertIs(value, fixed(value))
        inner = {"a": [1]}
        self.assertIs(inner, fixed([inner])[0])
        self.assertEqual({"a": [1]}, inner)
        self.assertEqual({1, 2}, fixed(value={1, 2}))

    def test_what_is_passed_stays(self):
        value = [1, [2]]
        fixed(value)
        self.assertEqual([1, [2]], value)


class Papers(unittest.TestCase):

    def test_a_paper_keeps_its_word_and_parts(self):
        self.assertEqual(("note", ()), (Paper("note").word, Paper("note").parts))
        paper = Paper("note", 1, [2, [3]], None, True)
        self.assertEqual(("note", (1, (2, (3,)), None, True)), (paper.word, paper.parts))
        self.assertIs(tuple, paper.parts[1].__class__)
        self.assertIs(True, paper.parts[3])
        self.assertEqual("dark", Denial(word="dark").word)
        self.assertEqual(((1,),), Denial("no", [1]).parts)

    def test_any_parts(self):
        for value in ODD:
            for made in (Paper, Denial):
                self.assertEqual(1, len(made("note", value).parts))
                if not isinstance(value, (list, tuple)):
                    self.assertIs(value, made("note", value).parts[0])

    def test_later_changes_change_nothing(self):
        told = [1, [2]]
        paper = Paper("note", told)
        told[1].append(3)
        told.append(4)
        self.assertEqual(((1, (2,)),), paper.parts)

    def test_papers_are_true_and_denials_false(self):
        self.assertIs(True, bool(Paper("no")))
        self.assertIs(True, bool(Paper("", False)))
        self.assertIs(False, bool(Denial("yes", True)))

    def test_denials_are_below_papers(self):
        self.assertEqual((Paper,), Denial.__bases__)
        self.assertEqual((object,), Paper.__bases__)

    def test_equal_exactly_if_class_word_and_parts_are(self):
        self.assertTrue(Paper("note", [1]) == Paper("note", (1,)))
        self.assertFalse(Paper("note", [1]) != Paper("note", (1,)))
        self.assertTrue(Denial("no", 1) == Denial("no", 1))
        self.assertFalse(Paper("note", 1) == Paper("note", 2))
        self.assertFalse(Paper("note", 1) == Paper("note", 1, 1))
        self.assertFalse(Paper("note", 1) == Paper("other", 1))
        self.assertFalse(Paper("note") == Denial("note"))
        self.assertFalse(Denial("note") == Paper("note"))
        self.assertTrue(Denial("note") != Paper("note"))
        self.assertTrue(Paper("note", 1) == Paper("note", True))

    def test_a_class_of_papers_is_equal_to_no_other(self):
        parts = (((0, 1),), "round")
        self.assertTrue(Track(*parts) == Track([[0, 1]], "round"))
        self.assertFalse(Track(*parts) == Paper("track", *parts))
        self.assertFalse(Paper("track", *parts) == Track(*parts))

    def test_equal_to_no_other_value(self):
        for value in ODD + (AlwaysEqual(), ("note",), (), "note"):
            self.assertIs(False, Paper("note") == value)
            self.assertIs(False, Denial("note") == value)
            self.assertIs(True, Paper("note") != value)


if __name__ == "__main__":
    unittest.main()
