"""The forms of point 2 and the sums of numbers that other modules go by."""

import unittest
from fractions import Fraction
from itertools import product

from bundleclocks.forms import is_below, minus, number, plus
from sums import TWENTY, is_number

NUMBERS = ((0, 1), (1, 1), (-1, 1), (1, 2), (-1, 2), (7, 3), (-7, 60), (TWENTY, 1), (1, TWENTY), (-TWENTY, 7))


class Numbers(unittest.TestCase):
    def assert_number(self, answer, expected):
        self.assertTrue(is_number(answer), answer)
        self.assertEqual(Fraction(*answer), expected)

    def test_in_lowest_terms(self):
        for top in range(-12, 13):
            for bottom in range(1, 13):
                self.assert_number(number(top, bottom), Fraction(top, bottom))

    def test_sums_and_order(self):
        for one, other in product(NUMBERS, repeat=2):
            self.assert_number(plus(one, other), Fraction(*one) + Fraction(*other))
            self.assert_number(minus(one, other), Fraction(*one) - Fraction(*other))
            self.assertIs(is_below(one, other), Fraction(*one) < Fraction(*other))


if __name__ == "__main__":
    unittest.main()
