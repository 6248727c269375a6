"""Points 6, 7, 8, and point 3's promise of just one of two: worths, or a ring that bars them."""

import unittest
from itertools import product

from bundleclocks.worths import told_bundles, weight, worths
from sums import (
    MILLION, TWELVE_IN_A_RING, TWENTY, is_barred, price_of, random_cases, ring_faults, row_faults, step_again,
    told_again,
)

ROUNDS = (((5, 3), (1, 2)), ((6, 3), (0, 2)), ((6, 4), (1, 2)))
SEALED = (((1, 2), 30), ((2, 2), 41))

# Rounds, sealed bids, kinds; there are worths.
WITH_WORTHS = {
    "none of either, one kind": ((), (), 1),
    "none of either, two kinds": ((), (), 2),
    "none of either, three kinds": ((), (), 3),
    "nothing told": ((((4,), (0,)),), (), 1),
    "all prices 0": ((((0, 0), (0, 1)), ((0, 0), (3, 2)), ((0, 0), (0, 0))), (), 2),
    "one round": ((((7, 2), (1, 3)),), (), 2),
    "the same round often": ((((7, 2), (1, 3)),) * 12, (), 2),
    "fewer at higher prices": ((((1,), (4,)), ((2,), (3,)), ((3,), (3,)), ((9,), (0,))), (), 1),
    "sealed alone": ((), (((1, 0), 5), ((0, 1), 0), ((1, 1), 2)), 2),
    "sealed as dear as can be": ((), (((1,), TWENTY), ((2,), 0)), 1),
    "sealed at its cost": ((((3, 4), (1, 1)),), (((1, 1), 7),), 2),
    "told nothing, sealed at its cost": ((((3, 4), (0, 0)),), (((1, 1), 7),), 2),
    "a million": ((((MILLION, MILLION, MILLION), (4, 4, 4)), ((0, 0, 0), (4, 4, 4))), (((4, 4, 4), 12 * MILLION),), 3),
    "eleven of a ring of twelve": (TWELVE_IN_A_RING[1:], (), 2),
    "twelve of each": (
        tuple([((at,), (12 - at,)) for at in range(12)]),
        tuple([((at,), sum(range(13 - at, 13)) - at) for at in range(1, 13)]), 1,
    ),
}

# The same where a ring bars all worths.
WITH_RING = {
    "more at a higher price": ((((1,), (1,)), ((2,), (2,))), (), 1),
    "more by one at the price higher by one, far up": ((((MILLION - 1,), (4,)), ((MILLION,), (5,))), (), 1),
    "back and forth": ((((5, 3), (1, 0)), ((3, 5), (0, 1))), (), 2),
    "sealed below its cost": ((((3, 4), (1, 1)),), (((1, 1), 6),), 2),
    "sealed for 0 and told at a price": ((((1,), (1,)),), (((1,), 0),), 1),
    "told nothing, sealed above its cost": ((((3, 4), (0, 0)),), (((1, 1), 8),), 2),
    "a dearer sealed one was better": ((((2, 2), (1, 0)),), (((1, 0), 4), ((0, 1), 5)), 2),
    "sealed as dear as can be": ((((1,), (1,)),), (((1,), TWENTY - 1), ((2,), TWENTY + 1)), 1),
    "nothing told, then something dearer": ((((4,), (0,)), ((5,), (1,))), (), 1),
    "three kinds": ((((1, 1, 9), (0, 0, 1)), ((9, 1, 1), (1, 0, 0)), ((1, 9, 1), (0, 1, 0))), (), 3),
    "twelve in a ring": (TWELVE_IN_A_RING, (), 2),
    "twelve in a ring the other way about": (TWELVE_IN_A_RING[::-1], (), 2),
    "twelve of each": (
        tuple([((at,), (12 - at,)) for at in range(12)]),
        tuple([((at,), sum(range(13 - at, 13)) - at - at // 12) for at in range(1, 13)]), 1,
    ),
}


class Told(unittest.TestCase):
    def test_of_no_rounds(self):
        for kinds in (1, 2, 3):
            self.assertEqual(told_bundles((), kinds=kinds), ((0,) * kinds,))
            self.assertEqual(told_bundles((), (), kinds=kinds), ((0,) * kinds,))

    def test_nothing_the_rounds_the_sealed(self):
        self.assertEqual(told_bundles(ROUNDS, SEALED, kinds=2), ((0, 0), (1, 2), (0, 2), (2, 2)))
        self.assertEqual(told_bundles(ROUNDS, kinds=2), ((0, 0), (1, 2), (0, 2)))
        self.assertEqual(told_bundles((), SEALED, kinds=2), ((0, 0), (1, 2), (2, 2)))
        self.assertEqual(told_bundles(ROUNDS[::-1], SEALED[::-1], kinds=2), ((0, 0), (1, 2), (0, 2), (2, 2)))
        self.assertEqual(told_bundles(ROUNDS[1:], SEALED[::-1], kinds=2), ((0, 0), (0, 2), (1, 2), (2, 2)))

    def test_nothing_once_where_it_is_a_rounds(self):
        self.assertEqual(told_bundles((((1,), (2,)), ((3,), (0,))), kinds=1), ((0,), (2,)))

    def test_of_twelve_of_each(self):
        rounds = tuple([((1, 1, 1), (at, 0, 12 - at)) for at in range(12)])
        sealed = tuple([((0, at, 0), at) for at in range(1, 13)])
        told = told_bundles(rounds, sealed, kinds=3)
        self.assertEqual(len(told), 25)
        self.assertEqual(told, ((0, 0, 0),) + tuple([row[1] for row in rounds]) + tuple([bid[0] for bid in sealed]))

    def test_told_again(self):
        for rounds, sealed, kinds in random_cases(1, 300):
            told = told_bundles(rounds, sealed, kinds=kinds)
            self.assertEqual(told, told_again(rounds, sealed, kinds))
            self.assertIs(type(told), tuple)
            self.assertEqual([type(bundle) for bundle in told], [tuple] * len(told))

    def test_by_names(self):
        told = ((0, 0), (1, 2), (0, 2), (2, 2))
        self.assertEqual(told_bundles(kinds=2, sealed=SEALED, rounds=ROUNDS), told)
        self.assertEqual(told_bundles(ROUNDS, kinds=2, sealed=SEALED), told)
        self.assertEqual(told_bundles(rounds=ROUNDS, kinds=2), told[:3])

    def test_kinds_by_its_name_alone(self):
        self.assertRaises(TypeError, told_bundles, ROUNDS, SEALED, 2)
        self.assertRaises(TypeError, told_bundles, ROUNDS, SEALED)
        self.assertRaises(TypeError, told_bundles, kinds=2)


class Weight(unittest.TestCase):
    def assert_weight(self, step, expected, rounds=ROUNDS, sealed=SEALED):
        answer = weight(step, rounds, sealed)
        self.assertEqual(answer, expected, step)
        self.assertIs(type(answer), int)

    def test_of_a_rounds_step(self):
        self.assert_weight(("round", 0, (0, 2)), 6 - 11)
        self.assert_weight(("round", 1, (1, 2)), 12 - 6)
        self.assert_weight(("round", 2, (0, 0)), -14)
        self.assert_weight(("round", 2, (2, 2)), 20 - 14)
        self.assert_weight(("round", 2, (1, 2)), 0)
        self.assert_weight(("round", 0, (1, 2)), 0)
        self.assert_weight(("round", 0, (0,)), -4 * MILLION, (((MILLION,), (4,)),), ())
        self.assert_weight(("round", 1, (1, 1, 1)), 321 - 6, (((9, 9, 9), (9, 9, 9)), ((1, 20, 300), (6, 0, 0))), ())

    def test_of_a_bids_step(self):
        self.assert_weight(("bid", 0, (1, 2)), 30)
        self.assert_weight(("bid", 1, (2, 2)), 41)
        self.assert_weight(("bid", 0, (1,)), TWENTY, (), (((1,), TWENTY),))
        self.assert_weight(("bid", 0, (1,)), 0, (), (((1,), 0),))

    def test_of_a_due_step(self):
        self.assert_weight(("due", 0, (1, 2)), -30)
        self.assert_weight(("due", 1, (2, 2)), -41)
        self.assert_weight(("due", 0, (1,)), -TWENTY, (), (((1,), TWENTY),))
        self.assert_weight(("due", 0, (1,)), 0, (), (((1,), 0),))

    def test_of_a_free_step(self):
        for bundle in told_bundles(ROUNDS, SEALED, kinds=2):
            self.assert_weight(("free", 0, bundle), 0)
        self.assert_weight(("free", 0, (0,)), 0, (), ())

    def test_of_all_steps_that_there_are(self):
        for rounds, sealed, kinds in random_cases(2, 120):
            told = told_again(rounds, sealed, kinds)
            steps = [("free", 0, bundle) for bundle in told]
            steps += [("round", place, bundle) for place in range(len(rounds)) for bundle in told]
            steps += [(word, place, sealed[place][0]) for place in range(len(sealed)) for word in ("bid", "due")]
            for step in steps:
                self.assert_weight(step, step_again(step, rounds, sealed, told)[2], rounds, sealed)

    def test_by_names_and_without_a_default(self):
        self.assertEqual(weight(sealed=SEALED, rounds=ROUNDS, step=("bid", 1, (2, 2))), 41)
        self.assertEqual(weight(("round", 2, (0, 0)), ROUNDS, sealed=()), -14)
        self.assertRaises(TypeError, weight, ("free", 0, (0, 0)), ROUNDS)


class Answers(unittest.TestCase):
    def assert_answer(self, answer, rounds, sealed, kinds):
        """Whatever is told, its own sums prove it."""
        self.assertIs(type(answer), tuple)
        self.assertEqual(len(answer), 2)
        word, shown = answer
        if word == "worths":
            self.assertEqual(row_faults(shown, rounds, sealed, kinds), [], (rounds, sealed))
        else:
            self.assertEqual(word, "ring")
            self.assertEqual(ring_faults(shown, rounds, sealed, kinds), [], (rounds, sealed))
            self.assertLess(sum([weight(step, rounds, sealed) for step in shown]), 0)

    def assert_told(self, word, rounds, sealed, kinds):
        answer = worths(rounds, sealed, kinds=kinds)
        self.assertEqual(answer[0], word, (rounds, sealed))
        self.assert_answer(answer, rounds, sealed, kinds)

    def test_with_worths(self):
        for words, (rounds, sealed, kinds) in WITH_WORTHS.items():
            with self.subTest(words):
                self.assert_told("worths", rounds, sealed, kinds)

    def test_with_a_ring(self):
        for words, (rounds, sealed, kinds) in WITH_RING.items():
            with self.subTest(words):
                self.assert_told("ring", rounds, sealed, kinds)

    def test_of_nothing_told(self):
        for kinds in (1, 2, 3):
            nothing = (0,) * kinds
            self.assertEqual(worths((), kinds=kinds), ("worths", ((nothing, 0),)))
            self.assertEqual(worths((((3,) * kinds, nothing),), kinds=kinds), ("worths", ((nothing, 0),)))

    def test_of_sealed_ones_alone(self):
        sealed = (((2, 0), 7), ((0, 1), 0), ((9, 9), TWENTY))
        row = (((0, 0), 0), ((2, 0), 7), ((0, 1), 0), ((9, 9), TWENTY))
        self.assertEqual(worths((), sealed, kinds=2), ("worths", row))

    def test_without_any_one_of_a_ring_of_twelve(self):
        for at in range(12):
            self.assert_told("worths", TWELVE_IN_A_RING[:at] + TWELVE_IN_A_RING[at + 1:], (), 2)
        self.assertEqual(len(worths(TWELVE_IN_A_RING, kinds=2)[1]), 12)

    def test_one_more_or_less_at_the_edge(self):
        # Two pieces at 5, one at 8: two are worth 10 at least, and at most what the second brings at 8.
        rounds = (((5,), (2,)), ((8,), (1,)))
        for money in range(30):
            self.assert_told("worths" if money >= 8 else "ring", rounds, (((1,), money),), 1)
            self.assert_told("worths" if money >= 13 else "ring", rounds, (((2,), money),), 1)
            self.assert_told("worths" if 15 <= money <= 18 else "ring", rounds, (((1,), 10), ((2,), money)), 1)

    def test_the_rounds_own_bundle_is_no_worse_than_nothing(self):
        for price in (1, 7, MILLION):
            for many in (1, 4):
                rounds = (((price,), (many,)),)
                self.assert_told("worths", rounds, (((many,), price * many),), 1)
                self.assert_told("ring", rounds, (((many,), price * many - 1),), 1)

    def test_in_whatever_order_they_come(self):
        for cases, word in ((WITH_WORTHS, "worths"), (WITH_RING, "ring")):
            for rounds, sealed, kinds in cases.values():
                for turn in range(1, 12, 3):
                    turned = (rounds[turn:] + rounds[:turn], sealed[turn:] + sealed[:turn])
                    self.assert_told(word, turned[0], turned[1], kinds)
                    self.assert_told(word, turned[0][::-1], turned[1][::-1], kinds)

    def test_just_one_of_two_told_again(self):
        words = []
        for rounds, sealed, kinds in random_cases(3, 1500):
            words.append("ring" if is_barred(rounds, sealed, kinds) else "worths")
            self.assert_told(words[-1], rounds, sealed, kinds)
        self.assertGreater(words.count("ring"), 300)
        self.assertGreater(words.count("worths"), 300)

    def test_just_one_of_two_by_trying_all_small_worths(self):
        bundles = list(product(range(2), repeat=2))[1:]
        every = [dict(zip([(0, 0)] + bundles, (0,) + row)) for row in product(range(8), repeat=3)]
        prices = ((1, 2), (2, 1))
        for best in product([(0, 0)] + bundles, repeat=2):
            for sealed in ((), (((1, 1), 3),), (((1, 0), 1), ((0, 1), 2)), (((0, 1), 2), ((1, 1), 4))):
                rounds = tuple(zip(prices, best))
                told = told_again(rounds, sealed, 2)
                rows = [tuple([(bundle, row[bundle]) for bundle in told]) for row in every]
                some = [row for row in rows if row_faults(row, rounds, sealed, 2) == []]
                self.assert_told("worths" if some else "ring", rounds, sealed, 2)

    def test_somewhat_beyond_the_bounds(self):
        rounds = tuple([((at, MILLION + at), (20 - at, 0)) for at in range(20)])
        sealed = tuple([((at, 1), 3 * TWENTY) for at in range(20)])
        self.assert_told("worths", rounds, (), 2)
        self.assert_told("worths", (), sealed, 2)
        self.assert_told("worths", rounds, sealed, 2)
        self.assert_told("ring", rounds, sealed + (((20, 0), 190),), 2)
        self.assert_told("ring", rounds[::-1] + (((21, 0), (21, 0)),), (), 2)

    def test_asked_again_between_others(self):
        cases = list(WITH_RING.values()) + list(WITH_WORTHS.values()) + random_cases(4, 40)
        first = [worths(rounds, sealed, kinds=kinds) for rounds, sealed, kinds in cases]
        for at in range(len(cases) - 1, -1, -1):
            rounds, sealed, kinds = cases[at]
            self.assertEqual(worths(rounds, sealed, kinds=kinds), first[at])

    def test_sealed_again_at_the_told_worths(self):
        for rounds, sealed, kinds in random_cases(5, 200):
            word, shown = worths(rounds, sealed, kinds=kinds)
            if word == "worths":
                self.assertEqual(worths(rounds, shown[1:], kinds=kinds), ("worths", shown))

    def test_by_names(self):
        word, shown = worths(kinds=2, rounds=ROUNDS)
        self.assert_answer((word, shown), ROUNDS, (), 2)
        self.assert_answer(worths(kinds=2, sealed=SEALED, rounds=ROUNDS), ROUNDS, SEALED, 2)
        self.assert_answer(worths(ROUNDS, kinds=2, sealed=SEALED), ROUNDS, SEALED, 2)

    def test_kinds_by_its_name_alone(self):
        self.assertRaises(TypeError, worths, ROUNDS, SEALED, 2)
        self.assertRaises(TypeError, worths, ROUNDS, SEALED)
        self.assertRaises(TypeError, worths, kinds=2)


class TheSumsThemselves(unittest.TestCase):
    """The checks of this file would see what is wrong."""

    def test_a_row_that_is_off(self):
        word, row = worths(ROUNDS, SEALED[1:], kinds=2)
        self.assertEqual((word, row_faults(row, ROUNDS, SEALED[1:], 2)), ("worths", []))
        wrong = (row[1:], row[::-1], list(row), row + (((9, 9), 1),), ((row[0][0], 1),) + row[1:],
                 row[:-1] + ((row[-1][0], 40),), row[:1] + ((row[1][0], -1),) + row[2:],
                 row[:1] + ((row[1][0], 99),) + row[2:])
        for other in wrong:
            self.assertNotEqual(row_faults(other, ROUNDS, SEALED[1:], 2), [])

    def test_a_ring_that_is_off(self):
        rounds, sealed, kinds = WITH_RING["a dearer sealed one was better"]
        ring = (("bid", 0, (1, 0)), ("round", 0, (0, 1)), ("due", 1, (0, 1)))
        self.assertEqual(ring_faults(ring, rounds, sealed, kinds), [])
        self.assertEqual(ring_faults(ring[1:] + ring[:1], rounds, sealed, kinds), [])
        wrong = ((), list(ring), ring[1:], ring[::-1], ring[:2], ring * 14, ring[:2] + (("free", 0, (0, 1)),),
                 ring[:2] + (("due", 0, (0, 1)),), ring[:2] + (("due", 2, (0, 1)),), ring[:2] + (("owed", 1, (0, 1)),),
                 ring[:2] + (("due", True, (0, 1)),), ring + (("free", 1, (0, 0)),), ring + (("free", 0, (5, 5)),))
        for other in wrong:
            self.assertNotEqual(ring_faults(other, rounds, sealed, kinds), [], other)

    def test_prices(self):
        self.assertEqual(price_of((1, 20, 300), (3, 2, 1)), 343)


if __name__ == "__main__":
    unittest.main()
