"""The examples of the document, as they stand, one section behind another."""

import pathlib
import unittest

MODULES = ("checks", "papers", "rooms", "places", "changed", "rays", "sheets", "books", "bands", "judged", "check_judged",
           "guards", "check_guards", "nearest", "maps", "folds", "check_folds", "doors", "check_doors", "pictures",
           "desks", "screens", "check_screens", "makers", "stories", "errors")


def names_of_all():
    """The names that the examples use, those of all modules together."""
    names = {}
    for module in MODULES:
        exec(f"from neverhit.{module} import *", names)
    return names


def examples():
    """The triples (section, what is asked, what is told); nothing is told of an assignment."""
    section, found = None, []
    for line in (pathlib.Path(__file__).parent / "doc_examples.txt").read_text().splitlines():
        if line.startswith("## "):
            section = line[3:]
        elif line.startswith(">>> "):
            found.append([section, line[4:], None])
        elif line:
            found[-1][2] = line
    return found


class Examples(unittest.TestCase):

    def test_all_examples(self):
        names = names_of_all()
        for section, asked, told in examples():
            with self.subTest(section=section, asked=asked):
                if told is None:
                    exec(asked, names)
                elif told.startswith("raises "):
                    wanted = eval(told[7:], names)
                    with self.assertRaises(wanted.__class__) as caught:
                        eval(asked, names)
                    self.assertEqual(vars(wanted), vars(caught.exception))
                else:
                    self.assertEqual(eval(told, names), eval(asked, names))

    def test_that_none_is_left_out(self):
        counts = {}
        for section, _, _ in examples():
            counts[section] = counts.get(section, 0) + 1
        self.assertEqual(
            {"checks": 2, "papers": 2, "rooms": 10, "places": 7, "changed": 7, "rays": 11, "sheets": 11, "books": 13,
             "bands": 7, "judged": 7, "check_judged": 2, "guards": 8, "check_guards": 1, "nearest": 9, "maps": 5,
             "folds": 7, "check_folds": 2, "doors": 12, "check_doors": 2, "pictures": 10, "desks": 11, "screens": 6,
             "check_screens": 3, "makers": 9, "stories": 10}, counts)


if __name__ == "__main__":
    unittest.main()
