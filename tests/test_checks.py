"""The checks of any values."""

import unittest
from math import gcd

from common import NO_INTEGERS, NO_POINTS, ODD, AlwaysEqual, OwnList

from neverhit.checks import is_integer, is_point, is_same, is_way, is_within

FAR = 10 ** 12


class ChecksOfValues(unittest.TestCase):

    def test_integers(self):
        for value in (0, 1, -1, 99, -10 ** 200, 10 ** 5000):
            self.assertIs(True, is_integer(value))
        for value in NO_INTEGERS:
            self.assertIs(False, is_integer(value))
        self.assertIs(True, is_integer(value=7))

    def test_within_its_bounds(self):
        for value, least, most, told in (
            (0, 0, 0, True), (1, 0, 0, False), (-1, 0, 0, False), (5, 3, 5, True), (3, 3, 5, True), (2, 3, 5, False),
            (6, 3, 5, False), (6, 3, None, True), (2, 3, None, False), (3, 3, None, True), (2, None, 5, True),
            (6, None, 5, False), (-10 ** 40, None, 5, True), (10 ** 40, None, None, True), (0, 1, -1, False),
            (-3, -3, -2, True), (5, None, 5, True), (0, None, None, True),
        ):
            with self.subTest(value=value, least=least, most=most):
                self.assertIs(told, is_within(value, least, most))
        self.assertIs(True, is_within(most=2, least=1, value=1))

    def test_what_is_no_integer_is_within_no_bounds(self):
        for value in NO_INTEGERS:
            self.assertIs(False, is_within(value, None, None))
            self.assertIs(False, is_within(value, 0, 1))

    def test_points(self):
        for value in ((0, 0), [0, 0], (-5, 7), [10 ** 50, -10 ** 50], (10 ** 5000, 1), OwnList((1, 2))):
            self.assertIs(True, is_point(value))
        for value in NO_POINTS:
            self.assertIs(False, is_point(value))
        self.assertIs(False, is_point((False, 0)))
        self.assertIs(True, is_point(value=(1, 2)))

    def test_ways(self):
        for p in range(-9, 10):
            for q in range(-9, 10):
                shared = [n for n in range(2, 10) if p % n == 0 and q % n == 0]
                self.assertIs((p, q) != (0, 0) and not shared, is_way((p, q)))
                self.assertIs(is_way((p, q)), is_way([p, q]))

    def test_ways_at_the_bounds(self):
        for one in (FAR, -FAR):
            self.assertIs(True, is_way((one, 1)))
            self.assertIs(True, is_way([1, one]))
            self.assertIs(True, is_way((one, FAR - 1)))
            self.assertIs(False, is_way((one, FAR)))
            self.assertIs(False, is_way((one, 10)))
            self.assertIs(False, is_way((one, 0)))
        for one in (FAR + 1, -FAR - 1, 10 ** 5000):
            self.assertEqual(1, gcd(one, 1))
            self.assertIs(False, is_way((one, 1)))
            self.assertIs(False, is_way((1, one)))

    def test_no_ways(self):
        for value in NO_POINTS:
            self.assertIs(False, is_way(value))
        self.assertIs(False, is_way((True, 0)))
        self.assertIs(True, is_way(value=(1, 0)))

    def test_the_same_rows_of_integers(self):
        for value in (0, 5, -10 ** 50, (), (1, 2), ((1, 2), (3, (4,))), (((),),)):
            self.assertIs(True, is_same(value, value))
        self.assertIs(True, is_same([1, [2, OwnList((3,))]], (1, (2, (3,)))))
        self.assertIs(True, is_same((1, (2, (3,))), [1, [2, [3]]]))
        for value, told in ((1, 2), ((1, 2), (2, 1)), ((1,), (1, 2)), ((1, 2, 3), (1, 2)), (1, (1,)), ((1,), 1), ((), ((),)),
                            (True, 1), ((1, False), (1, 0)), ((1.0,), (1,)), ("1", 1), ("12", (1, 2)), (None, ())):
            self.assertIs(False, is_same(value, told))
        for value in ODD + (AlwaysEqual(),):
            if value != []:
                for told in (0, 1, (), (1,), (0, 1)):
                    self.assertIs(False, is_same(value, told) and value not in ([], ()))
                self.assertIs(False, is_same((1, value), (1, 2)))


if __name__ == "__main__":
    unittest.main()
