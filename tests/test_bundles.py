"""Point 4: bundles, their costs and points, their sums, one within another one, and those within amounts."""

import unittest
from itertools import permutations, product

from bundleclocks.bundles import cost, is_within, points_of, together, within

TWENTY = 99999999999999999999
TWENTY_SQUARED = 9999999999999999999800000000000000000001

# (prices or points, bundle, the sum of the products), for one, two and three kinds.
SUMS = (
    ((7,), (3,), 21),
    ((1,), (1,), 1),
    ((0,), (5,), 0),
    ((5,), (0,), 0),
    ((TWENTY,), (1,), TWENTY),
    ((1,), (TWENTY,), TWENTY),
    ((TWENTY,), (TWENTY,), TWENTY_SQUARED),
    ((2, 3), (4, 5), 23),
    ((3, 2), (4, 5), 22),
    ((10, 0), (0, 9), 0),
    ((0, 10), (0, 9), 90),
    ((0, 0), (4, 4), 0),
    ((TWENTY, TWENTY), (TWENTY, 0), TWENTY_SQUARED),
    ((TWENTY, TWENTY), (TWENTY, TWENTY), 19999999999999999999600000000000000000002),
    ((10000000000000000000, 1), (1, 10000000000000000000), 20000000000000000000),
    ((1, 10, 100), (4, 3, 2), 234),
    ((100, 10, 1), (4, 3, 2), 432),
    ((5, 6, 7), (0, 0, 0), 0),
    ((0, 0, 0), (5, 6, 7), 0),
    ((5, 6, 7), (1, 0, 0), 5),
    ((5, 6, 7), (0, 1, 0), 6),
    ((5, 6, 7), (0, 0, 1), 7),
    ((TWENTY, 0, 1), (1, TWENTY, TWENTY), 199999999999999999998),
    ((TWENTY, TWENTY, TWENTY), (TWENTY, TWENTY, TWENTY), 29999999999999999999400000000000000000003),
)


def small_bundles(kinds, most):
    return list(product(range(most + 1), repeat=kinds))


class Sums(unittest.TestCase):
    def assert_whole(self, answer, expected):
        self.assertEqual(answer, expected)
        self.assertIs(type(answer), int)

    def test_cost_by_places(self):
        for prices, bundle, expected in SUMS:
            with self.subTest(prices=prices, bundle=bundle):
                self.assert_whole(cost(prices, bundle), expected)

    def test_cost_by_names_in_another_order(self):
        for prices, bundle, expected in SUMS:
            with self.subTest(prices=prices, bundle=bundle):
                self.assert_whole(cost(bundle=bundle, prices=prices), expected)
                self.assert_whole(cost(prices, bundle=bundle), expected)

    def test_points_by_places(self):
        for points, bundle, expected in SUMS:
            with self.subTest(points=points, bundle=bundle):
                self.assert_whole(points_of(points, bundle), expected)

    def test_points_by_names_in_another_order(self):
        for points, bundle, expected in SUMS:
            with self.subTest(points=points, bundle=bundle):
                self.assert_whole(points_of(bundle=bundle, points=points), expected)
                self.assert_whole(points_of(points, bundle=bundle), expected)

    def test_asked_again_between_others(self):
        for prices, bundle, expected in SUMS:
            for other_prices, other_bundle, other in SUMS:
                self.assertEqual(points_of(other_prices, other_bundle), other)
                self.assertEqual(cost(prices, bundle), expected)
                self.assertEqual(cost(other_prices, other_bundle), other)
                self.assertEqual(points_of(prices, bundle), expected)


class IsWithin(unittest.TestCase):
    def test_just_where_at_most_as_many_of_each_kind(self):
        for kinds, most in ((1, 6), (2, 4), (3, 2)):
            for one in small_bundles(kinds, most):
                for other in small_bundles(kinds, most):
                    above = [kind for kind in range(kinds) if one[kind] > other[kind]]
                    self.assertIs(is_within(one, other), above == [], (one, other))

    def test_either_way_about(self):
        self.assertIs(is_within((1, 2), (3, 2)), True)
        self.assertIs(is_within((3, 2), (1, 2)), False)
        self.assertIs(is_within((0, 3), (3, 0)), False)
        self.assertIs(is_within((3, 0), (0, 3)), False)

    def test_of_itself_and_of_nothing(self):
        for bundle in ((4,), (0, 7), (2, 0, TWENTY)):
            nothing = (0,) * len(bundle)
            with self.subTest(bundle):
                self.assertIs(is_within(bundle, bundle), True)
                self.assertIs(is_within(nothing, bundle), True)
                self.assertIs(is_within(bundle, nothing), False)
                self.assertIs(is_within(nothing, nothing), True)

    def test_one_piece_more_or_less_at_each_kind(self):
        for bundle in ((1,), (TWENTY - 1,), (3, 1), (5, TWENTY - 1), (2, 2, 2), (1, 9, 4)):
            for kind in range(len(bundle)):
                more = bundle[:kind] + (bundle[kind] + 1,) + bundle[kind + 1:]
                less = bundle[:kind] + (bundle[kind] - 1,) + bundle[kind + 1:]
                with self.subTest(bundle=bundle, kind=kind):
                    self.assertIs(is_within(bundle, more), True)
                    self.assertIs(is_within(more, bundle), False)
                    self.assertIs(is_within(less, bundle), True)
                    self.assertIs(is_within(bundle, less), False)

    def test_by_names_in_another_order(self):
        self.assertIs(is_within(other=(2, 3), one=(1, 3)), True)
        self.assertIs(is_within(other=(1, 3), one=(2, 3)), False)
        self.assertIs(is_within((1, 3), other=(2, 3)), True)

    def test_asked_again_between_others(self):
        for pair, expected in (((1, 1), (2, 2)), True), (((2, 2), (1, 1)), False), (((1, 1), (2, 2)), True):
            self.assertIs(is_within(pair[0], pair[1]), expected)


class Together(unittest.TestCase):
    def assert_bundle(self, answer, expected):
        self.assertEqual(answer, expected)
        self.assertIs(type(answer), tuple)
        self.assertEqual([type(many) for many in answer], [int] * len(expected))

    def test_of_no_bundles(self):
        self.assert_bundle(together([], kinds=1), (0,))
        self.assert_bundle(together([], kinds=2), (0, 0))
        self.assert_bundle(together([], kinds=3), (0, 0, 0))

    def test_of_one(self):
        for bundle in ((0,), (5,), (0, 4), (3, TWENTY), (1, 0, 2)):
            with self.subTest(bundle):
                self.assert_bundle(together([bundle], kinds=len(bundle)), bundle)

    def test_of_many(self):
        self.assert_bundle(together([(1,), (2,), (4,)], kinds=1), (7,))
        self.assert_bundle(together([(1, 10), (2, 20), (0, 0), (4, 0)], kinds=2), (7, 30))
        self.assert_bundle(together([(1, 0, 0), (0, 2, 0), (0, 0, 3), (1, 1, 1)], kinds=3), (2, 3, 4))
        self.assert_bundle(together([(TWENTY, 1), (TWENTY, TWENTY)], kinds=2), (2 * TWENTY, TWENTY + 1))
        self.assert_bundle(together([(many, 1, 0) for many in range(500)], kinds=3), (124750, 500, 0))

    def test_of_one_bundle_often(self):
        self.assert_bundle(together([(3, 0, 2)] * 7, kinds=3), (21, 0, 14))
        self.assert_bundle(together([(0, 0)] * 7, kinds=2), (0, 0))

    def test_in_another_order_the_same(self):
        some = [(1, 0, 5), (0, 2, 1), (4, 4, 0), (1, 0, 5)]
        for turned in permutations(some):
            self.assert_bundle(together(list(turned), kinds=3), (6, 6, 11))

    def test_the_list_stays_as_it_was_and_counts_as_it_is_when_asked(self):
        some = [(1, 2), (3, 4)]
        first = together(some, kinds=2)
        self.assertEqual(some, [(1, 2), (3, 4)])
        some.append((10, 0))
        self.assert_bundle(together(some, kinds=2), (14, 6))
        self.assert_bundle(first, (4, 6))
        del some[0]
        self.assert_bundle(together(some, kinds=2), (13, 4))
        some.clear()
        self.assert_bundle(together(some, kinds=2), (0, 0))

    def test_by_names_in_another_order(self):
        self.assert_bundle(together(kinds=2, some=[(1, 2), (3, 4)]), (4, 6))
        self.assert_bundle(together(kinds=3, some=[]), (0, 0, 0))

    def test_kinds_by_its_name_alone(self):
        with self.assertRaises(TypeError):
            together([(1, 2)], 2)
        with self.assertRaises(TypeError):
            together([(1, 2)])


class Within(unittest.TestCase):
    # Up to a thousand bundles, with noughts at each place.
    AMOUNTS = (
        (0,), (1,), (4,), (999,),
        (0, 0), (0, 3), (3, 0), (2, 3), (4, 4), (24, 39), (0, 999), (999, 0),
        (0, 0, 0), (1, 0, 2), (0, 2, 1), (2, 1, 0), (0, 0, 5), (4, 3, 2), (4, 4, 4), (9, 9, 9), (1, 0, 499),
    )

    def test_small_ones(self):
        self.assertEqual(within((0,)), [(0,)])
        self.assertEqual(within((2,)), [(0,), (1,), (2,)])
        self.assertEqual(within((1, 2)), [(0, 0), (0, 1), (0, 2), (1, 0), (1, 1), (1, 2)])
        self.assertEqual(within((2, 0)), [(0, 0), (1, 0), (2, 0)])
        self.assertEqual(within((1, 0, 1)), [(0, 0, 0), (0, 0, 1), (1, 0, 0), (1, 0, 1)])

    def test_each_bundle_once_in_the_order_of_tuples(self):
        for amounts in self.AMOUNTS:
            with self.subTest(amounts):
                told = within(amounts)
                self.assertIs(type(told), list)
                self.assertEqual(told, sorted(product(*[range(amount + 1) for amount in amounts])))
                self.assertEqual(len(set(told)), len(told))
                self.assertEqual(told[0], (0,) * len(amounts))
                self.assertEqual(told[-1], amounts)

    def test_each_is_a_tuple_of_whole_numbers(self):
        for amounts in self.AMOUNTS:
            for bundle in within(amounts):
                self.assertIs(type(bundle), tuple)
                self.assertEqual([type(many) for many in bundle], [int] * len(amounts))

    def test_a_thousand(self):
        for amounts in ((999,), (24, 39), (9, 9, 9), (1, 0, 499)):
            self.assertEqual(len(within(amounts)), 1000)

    def test_a_changed_list_changes_no_later_one(self):
        for amounts in self.AMOUNTS:
            with self.subTest(amounts):
                expected = list(within(amounts))
                told = within(amounts)
                told.reverse()
                told.append("more")
                self.assertEqual(within(amounts), expected)
                told.clear()
                self.assertNotEqual(within((1, 1)), [])
                self.assertEqual(within(amounts), expected)

    def test_a_told_list_stays_whatever_is_asked_later(self):
        held = [within(amounts) for amounts in self.AMOUNTS]
        before = [list(told) for told in held]
        for amounts in reversed(self.AMOUNTS):
            within(amounts).clear()
        self.assertEqual(held, before)

    def test_by_its_name(self):
        self.assertEqual(within(amounts=(1, 1)), [(0, 0), (0, 1), (1, 0), (1, 1)])


if __name__ == "__main__":
    unittest.main()
