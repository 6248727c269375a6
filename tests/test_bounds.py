"""Point 9, and point 3's promise of the least, the greatest, and each whole number between."""

import unittest
from itertools import product

from bundleclocks.bounds import bounds
from bundleclocks.errors import NoWorths
from bundleclocks.worths import worths
from sums import (
    MILLION, TWELVE_IN_A_RING, TWENTY, bounds_again, is_barred, random_cases, ring_faults, row_faults, told_again,
)

# (bundle, rounds, sealed, what is told).
TOLD = (
    # Nothing told at all.
    ((0,), (), (), (0, 0)),
    ((0, 0), (), (), (0, 0)),
    ((0, 0, 0), (), (), (0, 0)),
    ((1,), (), (), (0, None)),
    ((2, 3), (), (), (0, None)),
    ((0, 0, 9), (), (), (0, None)),
    # A told one is worth its cost at the least.
    ((2,), (((5,), (2,)),), (), (10, None)),
    ((1, 3), (((7, 2), (1, 3)),), (), (13, None)),
    ((1, 3), (((7, 2), (1, 3)), ((9, 2), (1, 3)), ((8, 2), (1, 3))), (), (15, None)),
    ((1, 3), (((0, 0), (1, 3)),), (), (0, None)),
    ((4, 4, 4), (((MILLION, MILLION, MILLION), (4, 4, 4)),), (), (12 * MILLION, None)),
    # Of nothing both are 0, whatever else is told.
    ((0,), (((5,), (2,)),), (), (0, 0)),
    ((0, 0), (((7, 2), (1, 3)), ((90, 90), (0, 0))), (((1, 3), 40),), (0, 0)),
    # One that isn't told: no least but 0; a greatest one where ways lead there from nothing.
    ((1,), (((5,), (2,)),), (), (0, None)),
    ((3,), (((5,), (2,)),), (), (0, None)),
    ((1,), (((5,), (0,)),), (), (0, 5)),
    ((3,), (((5,), (0,)),), (), (0, 15)),
    ((3,), (((5,), (0,)), ((4,), (0,)), ((6,), (0,))), (), (0, 12)),
    ((3, 2), (((0, 0), (0, 0)),), (), (0, 0)),
    ((3, 2), (((0, 7), (0, 0)),), (), (0, 14)),
    ((2, 2), (((3, 5), (1, 1)), ((4, 5), (0, 0))), (), (0, 17)),
    # A told one between, by other rounds.
    ((1,), (((5,), (2,)), ((8,), (1,)), ((20,), (0,))), (), (8, 20)),
    ((2,), (((5,), (2,)), ((8,), (1,)), ((20,), (0,))), (), (13, 28)),
    ((3,), (((5,), (2,)), ((8,), (1,)), ((20,), (0,))), (), (0, 33)),
    # Sealed ones are worth their money; others go by them.
    ((1, 2), (), (((1, 2), 30), ((2, 2), 41)), (30, 30)),
    ((2, 2), (), (((1, 2), 30), ((2, 2), 41)), (41, 41)),
    ((1, 1), (), (((1, 2), 30), ((2, 2), 41)), (0, None)),
    ((1,), (), (((1,), TWENTY),), (TWENTY, TWENTY)),
    ((1,), (), (((1,), 0),), (0, 0)),
    ((0, 0), (), (((1, 2), 30), ((2, 2), 41)), (0, 0)),
    ((1,), (((5,), (2,)),), (((2,), 11),), (0, 6)),
    ((3,), (((5,), (2,)),), (((2,), 11),), (0, 16)),
    ((5,), (((5,), (2,)), ((1,), (3,))), (((2,), TWENTY),), (0, TWENTY + 7)),
    ((3,), (((5,), (2,)), ((1,), (3,))), (((2,), TWENTY),), (TWENTY + 1, TWENTY + 5)),
    ((2,), (((5,), (2,)), ((1,), (3,))), (((3,), 11),), (10, 10)),
    ((2,), (((5,), (2,)), ((1,), (3,))), (((3,), 14),), (10, 13)),
)

BARRED = (
    ((((1,), (1,)), ((2,), (2,))), (), 1),
    ((((3, 4), (1, 1)),), (((1, 1), 6),), 2),
    ((((3, 4), (0, 0)),), (((1, 1), 8),), 2),
    ((((1, 1, 9), (0, 0, 1)), ((9, 1, 1), (1, 0, 0)), ((1, 9, 1), (0, 1, 0))), (), 3),
    (TWELVE_IN_A_RING, (), 2),
)


def others_of(told):
    """Some bundles that aren't told: each told one with a piece more of one kind, and a large one."""
    some = []
    for bundle in told + ((11,) * len(told[0]),):
        for kind in range(len(bundle)):
            some.append(bundle[:kind] + (bundle[kind] + 1,) + bundle[kind + 1:])
    return [bundle for bundle in sorted(set(some)) if bundle not in told]


class Bounds(unittest.TestCase):
    def assert_bounds(self, answer, expected, asked=None):
        self.assertEqual(answer, expected, asked)
        self.assertIs(type(answer), tuple)
        self.assertEqual([type(part) for part in answer], [type(part) for part in expected])

    def assert_can_be(self, bundle, money, rounds, sealed, expected):
        """That the bundle can be worth the money is shown by worths, that it can't by a ring."""
        put = sealed + ((bundle, money),)
        word, shown = worths(rounds, put, kinds=len(bundle))
        self.assertEqual(word, "worths" if expected else "ring", (bundle, money, rounds, sealed))
        faults = row_faults if expected else ring_faults
        self.assertEqual(faults(shown, rounds, put, len(bundle)), [])

    def test_told(self):
        for bundle, rounds, sealed, expected in TOLD:
            with self.subTest(bundle=bundle, rounds=rounds, sealed=sealed):
                self.assert_bounds(bounds(bundle, rounds, sealed), expected)

    def test_without_sealed_ones(self):
        for bundle, rounds, sealed, expected in TOLD:
            if sealed == ():
                self.assert_bounds(bounds(bundle, rounds), expected)

    def test_of_nothing_always_noughts(self):
        for rounds, sealed, kinds in random_cases(11, 300):
            if not is_barred(rounds, sealed, kinds):
                self.assert_bounds(bounds((0,) * kinds, rounds, sealed), (0, 0))

    def test_told_again_of_told_ones_and_others(self):
        greatest = []
        for rounds, sealed, kinds in random_cases(12, 300):
            if not is_barred(rounds, sealed, kinds):
                told = told_again(rounds, sealed, kinds)
                for bundle in list(told) + others_of(told):
                    answer = bounds(bundle, rounds, sealed)
                    self.assert_bounds(answer, bounds_again(bundle, rounds, sealed), (bundle, rounds, sealed))
                    greatest.append(answer[1])
        self.assertGreater(greatest.count(None), 300)
        self.assertGreater(len(greatest) - greatest.count(None), 300)

    def test_each_whole_number_between_can_be_and_none_beyond(self):
        for rounds, sealed, kinds in random_cases(13, 90):
            if not is_barred(rounds, sealed, kinds):
                told = told_again(rounds, sealed, kinds)
                barred = ((0,) * kinds,) + tuple([bid[0] for bid in sealed])
                for bundle in [bundle for bundle in list(told) + others_of(told)[:6] if bundle not in barred]:
                    least, greatest = bounds(bundle, rounds, sealed)
                    upper = least + 1000 * MILLION if greatest is None else greatest
                    between = {least, least + 1, (least + upper) // 2, upper - 1, upper}
                    for money in [money for money in sorted(between) if least <= money <= upper]:
                        self.assert_can_be(bundle, money, rounds, sealed, True)
                    if least > 0:
                        self.assert_can_be(bundle, least - 1, rounds, sealed, False)
                        self.assert_can_be(bundle, 0, rounds, sealed, False)
                    if greatest is not None:
                        self.assert_can_be(bundle, greatest + 1, rounds, sealed, False)
                        self.assert_can_be(bundle, greatest + TWENTY, rounds, sealed, False)

    def test_every_number_of_a_small_case(self):
        rounds = (((5,), (2,)), ((8,), (1,)), ((20,), (0,)))
        for bundle, (least, greatest) in (((1,), (8, 20)), ((2,), (13, 28)), ((3,), (0, 33))):
            for money in range(60):
                self.assert_can_be(bundle, money, rounds, (), least <= money <= greatest)

    def test_by_trying_all_small_worths(self):
        bundles = list(product(range(2), repeat=2))[1:]
        every = [dict(zip([(0, 0)] + bundles, (0,) + row)) for row in product(range(10), repeat=3)]
        for best in product([(0, 0)] + bundles, repeat=2):
            for sealed in ((), (((1, 1), 3),), (((1, 0), 1),)):
                rounds = tuple(zip(((1, 2), (2, 1)), best))
                if not is_barred(rounds, sealed, 2):
                    for bundle in bundles:
                        self.assert_tried(bundle, rounds, sealed, every)

    def assert_tried(self, bundle, rounds, sealed, every):
        told = told_again(rounds, sealed, 2)
        put = told if bundle in told else told + (bundle,)
        # The bundle put behind is as a sealed one whose money is whatever the row gives it.
        some = []
        for row in every:
            bids = sealed if bundle in told else sealed + ((bundle, row[bundle]),)
            if row_faults(tuple([(one, row[one]) for one in put]), rounds, bids, 2) == []:
                some.append(row[bundle])
        least, greatest = bounds(bundle, rounds, sealed)
        self.assertEqual(min(some), least, (bundle, rounds, sealed))
        # Where there is no greatest one, the tried worths end only where the trying does, near 9.
        self.assertEqual(max(some) if max(some) < 6 else None, greatest, (bundle, rounds, sealed))

    def test_without_any_one_of_a_ring_of_twelve(self):
        for at in range(12):
            rounds = TWELVE_IN_A_RING[:at] + TWELVE_IN_A_RING[at + 1:]
            for bundle in (TWELVE_IN_A_RING[at][1], rounds[0][1], rounds[-1][1], (0, 0), (1, 1)):
                self.assert_bounds(bounds(bundle, rounds), bounds_again(bundle, rounds, ()))

    def test_twelve_of_each(self):
        rounds = tuple([((at,), (12 - at,)) for at in range(12)])
        sealed = tuple([((at,), sum(range(13 - at, 13)) - at) for at in range(1, 13)])
        for bundle, money in sealed:
            self.assert_bounds(bounds(bundle, rounds, sealed), (money, money))
        for bundle in ((0,), (13,), (14,), (100,)):
            self.assert_bounds(bounds(bundle, rounds, sealed), bounds_again(bundle, rounds, sealed))
        self.assert_bounds(bounds((13,), rounds, sealed), (0, 66))

    def test_told_bounds_sealed_again_whatever_their_size(self):
        rounds = (((5,), (2,)), ((1,), (3,)))
        least, greatest = bounds((5,), rounds, (((2,), TWENTY),))
        self.assert_bounds(bounds((5,), rounds, (((2,), TWENTY), ((5,), greatest))), (greatest, greatest))

    def test_asked_again_between_others(self):
        for bundle, rounds, sealed, expected in TOLD + TOLD[::-1]:
            self.assertEqual(bounds(bundle, rounds, sealed), expected)
            self.assertEqual(bounds((3, 1), (((2, 2), (1, 1)),)), (0, None))

    def test_by_names(self):
        rounds, sealed = (((5,), (2,)),), (((2,), 11),)
        self.assertEqual(bounds(sealed=sealed, rounds=rounds, bundle=(1,)), (0, 6))
        self.assertEqual(bounds((1,), rounds, sealed=sealed), (0, 6))
        self.assertEqual(bounds(rounds=rounds, bundle=(1,)), (0, None))
        self.assertRaises(TypeError, bounds, (1,))


class Refused(unittest.TestCase):
    def assert_barred(self, bundle, rounds, sealed, kinds):
        """The ring is of the told bundles alone, whichever bundle was asked."""
        with self.assertRaises(NoWorths) as refused:
            bounds(bundle, rounds, sealed)
        self.assertEqual(ring_faults(refused.exception.ring, rounds, sealed, kinds), [], (bundle, rounds, sealed))

    def test_where_there_are_no_worths(self):
        for rounds, sealed, kinds in BARRED:
            told = told_again(rounds, sealed, kinds)
            for bundle in list(told) + others_of(told):
                with self.subTest(bundle=bundle, rounds=rounds, sealed=sealed):
                    self.assert_barred(bundle, rounds, sealed, kinds)

    def test_told_again(self):
        many = 0
        for rounds, sealed, kinds in random_cases(14, 400):
            told = told_again(rounds, sealed, kinds)
            if is_barred(rounds, sealed, kinds):
                many += 1
                for bundle in list(told[:4]) + others_of(told)[:4]:
                    self.assert_barred(bundle, rounds, sealed, kinds)
        self.assertGreater(many, 80)

    def test_answered_as_ever_behind_a_refusal(self):
        for rounds, sealed, kinds in BARRED:
            self.assert_barred((1,) * kinds, rounds, sealed, kinds)
            self.assertEqual(bounds((1,), (((5,), (2,)),), (((2,), 11),)), (0, 6))


if __name__ == "__main__":
    unittest.main()
