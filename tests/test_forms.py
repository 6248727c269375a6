"""The forms of point 2 and the sums of numbers that other modules go by."""

import unittest
from fractions import Fraction
from itertools import product

from bundleclocks import forms
from bundleclocks.forms import is_below, is_bundle, is_same, minus, number, plus
from sums import TWENTY, any_things, is_number, otherwise, part_at, paths_of, put_at

NUMBERS = ((0, 1), (1, 1), (-1, 1), (1, 2), (-1, 2), (7, 3), (-7, 60), (TWENTY, 1), (1, TWENTY), (-TWENTY, 7))


class Forms(unittest.TestCase):
    def test_bundles(self):
        for kinds in (1, 2, 3):
            for bundle in ((0,) * kinds, (4,) * kinds, (TWENTY,) * kinds, tuple(range(kinds))):
                self.assertIs(is_bundle(bundle, kinds), True)
                self.assertIs(is_bundle(bundle, kinds + 1), False)
                self.assertIs(is_bundle(bundle + (0,), kinds), False)
                self.assertIs(is_bundle(list(bundle), kinds), False)
                for at in range(kinds):
                    for part in (-1, True, False, None, "1", (), [1]):
                        self.assertIs(is_bundle(bundle[:at] + (part,) + bundle[at + 1:], kinds), False)
        for thing in any_things():
            self.assertIs(is_bundle(thing, 2), False)

    def test_numbers(self):
        for thing in NUMBERS:
            self.assertIs(forms.is_number(thing), True)
        for thing in any_things() + ((0, 2), (2, 4), (-3, 6), (1, 0), (0, 0), (1, -1), (True, 1), (1, True), [1, 1],
                                     (1,), (1, 1, 1), ("1", 1), (1, None), (False, 1)):
            self.assertIs(forms.is_number(thing), is_number(thing))
            self.assertIs(forms.is_number(thing), False)

    def test_the_same_down_to_the_innermost(self):
        told = ("settle", (1, None, 0), ((0, 1), (7, 2), "a"))
        self.assertIs(is_same(told, told), True)
        for path in paths_of(told):
            for part in otherwise(part_at(told, path)):
                self.assertIs(is_same(put_at(told, path, part), told), False)


class Numbers(unittest.TestCase):
    def assert_number(self, answer, expected):
        self.assertTrue(is_number(answer), answer)
        self.assertEqual(Fraction(*answer), expected)

    def test_in_lowest_terms(self):
        for top in range(-12, 13):
            for bottom in range(1, 13):
                self.assert_number(number(top, bottom), Fraction(top, bottom))

    def test_sums_and_order(self):
        for one, other in product(NUMBERS, repeat=2):
            self.assert_number(plus(one, other), Fraction(*one) + Fraction(*other))
            self.assert_number(minus(one, other), Fraction(*one) - Fraction(*other))
            self.assertIs(is_below(one, other), Fraction(*one) < Fraction(*other))


if __name__ == "__main__":
    unittest.main()
