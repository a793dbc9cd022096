"""The errors: what they are below of, and their fields."""

import unittest

from common import FIELDS, ODD, Checks

import neverhit.errors
from neverhit.errors import BadLine, BadNumber, BadText, Misfit, MirrorError, NoName, TooMany, Twice


def classes():
    """All errors but the base, by name."""
    return {name: getattr(neverhit.errors, name) for name in FIELDS}


class Errors(Checks):

    def test_base(self):
        self.assertEqual((ValueError,), MirrorError.__bases__)

    def test_all_are_directly_below_the_base(self):
        for name, error in classes().items():
            with self.subTest(name=name):
                self.assertEqual((MirrorError,), error.__bases__)
                self.assertEqual(name, error.__name__)
                self.assertEqual("neverhit.errors", error.__module__)

    def test_no_others_and_none_missing(self):
        found = [name for name, value in vars(neverhit.errors).items() if isinstance(value, type)]
        self.assertEqual(sorted(list(FIELDS) + ["MirrorError"]), sorted(found))

    def test_fields_by_place_and_by_name_any_values(self):
        for name, error in classes().items():
            fields = FIELDS[name]
            for value in ODD + ([1, [2]], (1, 2), 10 ** 5000, -1):
                values = [[value, n] for n in range(len(fields))]
                by_place = error(*values)
                by_name = error(**dict(zip(fields, values)))
                for at, field in enumerate(fields):
                    self.assertIs(values[at], getattr(by_place, field))
                    self.assertIs(values[at], getattr(by_name, field))

    def test_a_value_is_kept_as_it_was_passed(self):
        told = [1, [2]]
        self.assertIs(told, NoName(told).value)
        self.assertIs(told, Twice(value=told).value)
        self.assertEqual(("books", 5000), (TooMany("books", 5000).what, TooMany("books", 5000).most))
        self.assertEqual((0, 7), (BadText(0, item=7).line, BadText(0, 7).item))
        inner = BadNumber("fine")
        self.assertIs(inner, BadLine(3, inner).error)
        self.assertEqual(3, BadLine(3, inner).line)

    def test_they_are_raised_and_caught_as_value_errors(self):
        with self.assertRaises(ValueError):
            raise Misfit("shut")
        with self.assertRaises(MirrorError):
            raise BadText(0, 1)


if __name__ == "__main__":
    unittest.main()
