"""Points 21, 22 and 23: sets, their worths, the set that blocks by the most, and payments by harm."""

import random
import unittest
from fractions import Fraction

from bundleclocks.core import blocks, harms, set_worth, sets_of
from bundleclocks.dealing import best
from bundleclocks.errors import NoChoice
from sums import (
    TWENTY, all_choices, best_by_look, blocks_again, fractions_of, is_number, random_bids, set_worth_again,
    set_worths_again, sets_again, won_again,
)

# Two want a piece each, the third one both.
AMOUNTS = (2,)
BIDS = ((((1,), 6),), (((1,), 7),), (((2,), 9),))
WON = (0, 0, None)

# (amounts, bids, choice, payments, what is told).
TOLD = (
    # All pay what they won: nobody blocks.
    (AMOUNTS, BIDS, WON, ((6, 1), (7, 1), (0, 1)), None),
    # The third one would give 9: the others must pay 9 together.
    (AMOUNTS, BIDS, WON, ((2, 1), (7, 1), (0, 1)), None),
    (AMOUNTS, BIDS, WON, ((4, 1), (5, 1), (0, 1)), None),
    (AMOUNTS, BIDS, WON, ((4, 1), (4, 1), (0, 1)), ((2,), (1, 1))),
    (AMOUNTS, BIDS, WON, ((9, 2), (9, 2), (0, 1)), None),
    (AMOUNTS, BIDS, WON, ((13, 3), (9, 2), (0, 1)), ((2,), (1, 6))),
    (AMOUNTS, BIDS, WON, ((0, 1), (0, 1), (0, 1)), ((2,), (9, 1))),
    # The first two alone are worth what they won: only who is outside counts.
    (AMOUNTS, BIDS, WON, ((2, 1), (7, 1), (-1, 1)), ((0, 1), (1, 1))),
    (AMOUNTS, BIDS, WON, ((6, 1), (7, 1), (-14, 1)), ((0, 1), (14, 1))),
    # The empty set blocks where all together pay less than 0; of several it is the first.
    ((1,), ((),), (None,), ((-1, 1),), ((), (1, 1))),
    ((1,), ((),), (None,), ((-7, 3),), ((), (7, 3))),
    ((1,), ((),), (None,), ((0, 1),), None),
    ((1,), ((), ()), (None, None), ((-1, 1), (-1, 1)), ((), (2, 1))),
    ((1,), ((), ()), (None, None), ((-1, 1), (0, 1)), ((), (1, 1))),
    ((1,), ((), ()), (None, None), ((-1, 1), (1, 1)), ((1,), (1, 1))),
    # Of several sets that block by as much the first: fewer ahead of more, then as tuples go.
    ((1,), ((((1,), 5),), (((1,), 4),), (((1,), 4),)), (0, None, None), ((3, 1), (0, 1), (0, 1)), ((1,), (1, 1))),
    ((1,), ((((1,), 5),), (((1,), 4),), (((1,), 4),)), (0, None, None), ((4, 1), (0, 1), (0, 1)), None),
    ((1,), ((), (((1,), 4),), (((1,), 4),)), (None, None, None), ((0, 1),) * 3, ((1,), (4, 1))),
    ((2,), ((((1,), 3),), (((1,), 3),), (((1,), 3),)), (None,) * 3, ((0, 1),) * 3, ((0, 1), (6, 1))),
    # All of them block a choice that isn't best.
    (AMOUNTS, BIDS, (None, None, 0), ((0, 1), (0, 1), (9, 1)), ((0, 1), (4, 1))),
    (AMOUNTS, BIDS, (None, None, None), ((0, 1), (0, 1), (0, 1)), ((0, 1), (13, 1))),
    # Twenty figures.
    ((1,), ((((1,), TWENTY),), (((1,), TWENTY),)), (0, None), ((TWENTY - 1, 1), (0, 1)), ((1,), (1, 1))),
    ((1,), ((((1,), TWENTY),), (((1,), TWENTY),)), (0, None), ((1, TWENTY), (0, 1)),
     ((1,), (TWENTY * TWENTY - 1, TWENTY))),
    # Bids for nothing, amounts of 0, what is beyond the amounts.
    ((0,), ((((0,), 2),), (((1,), 9),)), (0, None), ((2, 1), (0, 1)), None),
    ((0,), ((((0,), 2),), (((1,), 9),)), (0, None), ((0, 1), (0, 1)), None),
    ((0,), ((((0,), 2),), (((1,), 9),)), (None, None), ((0, 1), (0, 1)), ((0,), (2, 1))),
)


def random_payment(rng, money):
    bottom = rng.choice((1, 1, 2, 3, 7, 60))
    shown = Fraction(rng.randint(-1, money * bottom + 1), bottom)
    return (shown.numerator, shown.denominator)


class Sets(unittest.TestCase):
    def test_of_one_to_three(self):
        self.assertEqual(sets_of(1), [(), (0,)])
        self.assertEqual(sets_of(2), [(), (0,), (1,), (0, 1)])
        self.assertEqual(sets_of(3), [(), (0,), (1,), (2,), (0, 1), (0, 2), (1, 2), (0, 1, 2)])

    def test_told_again(self):
        for many in range(1, 7):
            sets = sets_of(many)
            self.assertEqual(sets, sets_again(many))
            self.assertEqual(len(sets), 2 ** many)
            self.assertIs(type(sets), list)
            self.assertEqual({type(some) for some in sets}, {tuple})
            self.assertEqual({type(place) for some in sets for place in some}, {int})

    def test_new_each_time_and_by_its_name(self):
        first = sets_of(many=3)
        second = sets_of(3)
        first.clear()
        self.assertEqual(len(second), 8)
        second.append("more")
        self.assertEqual(sets_of(3), sets_again(3))


class Worths(unittest.TestCase):
    def assert_worth(self, amounts, bids, some, expected):
        answer = set_worth(amounts, bids, some)
        self.assertEqual(answer, expected, (amounts, bids, some))
        self.assertIs(type(answer), int)

    def test_told(self):
        for some, expected in (((), 0), ((0,), 6), ((1,), 7), ((2,), 9), ((0, 1), 13), ((0, 2), 9), ((1, 2), 9),
                               ((0, 1, 2), 13)):
            self.assert_worth(AMOUNTS, BIDS, some, expected)

    def test_of_none_and_of_those_without_bids(self):
        self.assert_worth((4, 4), ((), ()), (), 0)
        self.assert_worth((4, 4), ((), ()), (0, 1), 0)
        self.assert_worth((0,), ((((1,), 5),),), (0,), 0)
        self.assert_worth((0,), ((((0,), 5),),), (0,), 5)
        self.assert_worth((2,), ((((1,), TWENTY),),) * 3, (0, 2), 2 * TWENTY)

    def test_by_a_look_at_all_choices(self):
        for amounts, bids in random_bids(21, 80, most_bidders=4, most_bids=3):
            for some in sets_again(len(bids)):
                own = tuple([bids[place] for place in some])
                self.assert_worth(amounts, bids, some, best_by_look(amounts, own)[1])

    def test_of_six_with_many_bids(self):
        for amounts, bids in random_bids(22, 12):
            for some in sets_again(len(bids)):
                self.assert_worth(amounts, bids, some, set_worth_again(amounts, bids, some))

    def test_by_names(self):
        self.assertEqual(set_worth(some=(0, 1), bids=BIDS, amounts=AMOUNTS), 13)
        self.assertEqual(set_worth(AMOUNTS, BIDS, some=(2,)), 9)


class Blocks(unittest.TestCase):
    def assert_blocks(self, amounts, bids, choice, payments, expected):
        answer = blocks(amounts, bids, choice, payments)
        self.assertEqual(answer, expected, (amounts, bids, choice, payments))
        self.assertIs(type(answer), type(expected))
        if answer is not None:
            self.assertEqual([type(part) for part in answer], [tuple, tuple])
            self.assertTrue(is_number(answer[1]), answer)

    def test_told(self):
        for amounts, bids, choice, payments, expected in TOLD:
            with self.subTest(bids=bids, choice=choice, payments=payments):
                self.assert_blocks(amounts, bids, choice, payments, expected)

    def test_told_again(self):
        rng = random.Random(23)
        told = []
        for amounts, bids in random_bids(24, 150, most_bids=5):
            choice = best(amounts, bids)
            for turn in range(3):
                payments = tuple([random_payment(rng, money) for money in won_again(bids, choice)])
                told.append(self.told_by_sums(amounts, bids, choice, payments))
                self.assert_blocks(amounts, bids, choice, payments, told[-1])
        self.assertGreater(told.count(None), 60)
        self.assertGreater(len(told) - told.count(None), 100)
        self.assertGreater(len([answer for answer in told if answer is not None and answer[1][1] > 1]), 40)

    def test_of_choices_that_are_not_best(self):
        rng = random.Random(25)
        for amounts, bids in random_bids(26, 60, most_bidders=4, most_bids=3):
            for turn in range(4):
                choice = rng.choice(all_choices(amounts, bids))[0]
                payments = tuple([random_payment(rng, money) for money in won_again(bids, choice)])
                self.assert_blocks(amounts, bids, choice, payments, self.told_by_sums(amounts, bids, choice, payments))

    def told_by_sums(self, amounts, bids, choice, payments):
        answer = blocks_again(amounts, bids, choice, payments)
        return answer if answer is None else (answer[0], (answer[1].numerator, answer[1].denominator))

    def test_the_first_of_several_among_ties(self):
        # Bidders who are all alike: each set of a size blocks by as much.
        for many in range(2, 7):
            for size in range(1, min(many, 4) + 1):
                bids = ((((1,), 3),),) * many
                self.assert_blocks((size,), bids, (None,) * many, ((0, 1),) * many, (tuple(range(size)), (3 * size, 1)))

    def test_at_the_edge_by_a_fraction(self):
        for bottom in (1, 2, 3, 7, 60, 10 ** 19):
            payments = ((9 * bottom - 1, bottom), (0, 1), (0, 1))
            self.assert_blocks((2,), ((((2,), 20),),) + BIDS[2:] + ((),), (0, None, None), payments,
                               ((1,), (1, bottom)))
            payments = ((9 * bottom + 1, bottom), (0, 1), (0, 1))
            self.assert_blocks((2,), ((((2,), 20),),) + BIDS[2:] + ((),), (0, None, None), payments, None)

    def test_refused_as_no_choice(self):
        for choice, place in ((None, None), (True, None), ("abc", None), ([0, 0, None], None), ((0, 0), None),
                              ((0, 0, None, None), None), ((), None), ((0, 0, 0), 2), ((0, True, None), 1),
                              ((False, 0, None), 0), ((0, -1, None), 1), ((0, 1, None), 1), (("a", 9, 9), 0),
                              ((None, [], None), 1), ((None, None, (0,)), 2), (TWENTY, None)):
            with self.assertRaises(NoChoice) as refused:
                blocks(AMOUNTS, BIDS, choice, ((0, 1),) * 3)
            self.assertEqual(refused.exception.place, place, choice)
            self.assertIs(type(refused.exception.place), type(place))

    def test_by_names(self):
        payments = ((4, 1), (4, 1), (0, 1))
        self.assertEqual(blocks(payments=payments, choice=WON, bids=BIDS, amounts=AMOUNTS), ((2,), (1, 1)))


class Harms(unittest.TestCase):
    def assert_harms(self, amounts, bids, choice, expected):
        answer = harms(amounts, bids, choice)
        self.assertEqual(answer, expected, (amounts, bids, choice))
        self.assertIs(type(answer), tuple)
        self.assertEqual([type(part) for part in answer], [int] * len(bids))

    def test_told(self):
        self.assert_harms(AMOUNTS, BIDS, WON, (2, 3, 0))
        self.assert_harms((1,), ((),), (None,), (0,))
        self.assert_harms((1,), ((((1,), 5),),), (0,), (0,))
        self.assert_harms((1,), ((((1,), 5),), (((1,), 3),)), (0, None), (3, 0))
        self.assert_harms((1,), ((((1,), 5),), (((1,), 5),)), (0, None), (5, 0))
        self.assert_harms((1,), ((((1,), 5),), (((1,), 5),)), (None, 0), (0, 5))
        self.assert_harms((0,), ((((0,), 5),), (((0,), 5),)), (0, 0), (0, 0))
        self.assert_harms((1,), ((((1,), TWENTY),), (((1,), TWENTY - 1),)), (0, None), (TWENTY - 1, 0))
        self.assert_harms((2,), ((((1,), 3),),) * 6, (None, 0, None, 0, None, None), (0, 3, 0, 3, 0, 0))

    def test_told_again_of_each_best_choice(self):
        for amounts, bids in random_bids(27, 80, most_bidders=4, most_bids=3):
            most = best_by_look(amounts, bids)[1]
            for choice in [choice for choice, total in all_choices(amounts, bids) if total == most][:4]:
                self.assert_harms(amounts, bids, choice, self.told_by_sums(amounts, bids, choice))

    def test_told_again_of_many_bids(self):
        for amounts, bids in random_bids(28, 30):
            choice = best(amounts, bids)
            self.assert_harms(amounts, bids, choice, self.told_by_sums(amounts, bids, choice))

    def told_by_sums(self, amounts, bids, choice):
        won = won_again(bids, choice)
        told = []
        for bidder in range(len(bids)):
            others = tuple([place for place in range(len(bids)) if place != bidder])
            told.append(set_worth_again(amounts, bids, others) - sum([won[place] for place in others]))
        return tuple(told)

    def test_no_core_asks_less(self):
        rng = random.Random(29)
        seen = 0
        for amounts, bids in random_bids(30, 80, most_bids=4):
            choice = best(amounts, bids)
            won, least = won_again(bids, choice), harms(amounts, bids, choice)
            for turn in range(4):
                payments = tuple([random_payment(rng, money) for money in won])
                paid = fractions_of(payments)
                within_won = all([0 <= paid[at] <= won[at] for at in range(len(won))])
                if within_won and blocks(amounts, bids, choice, payments) is None:
                    seen += 1
                    self.assertTrue(all([paid[at] >= least[at] for at in range(len(won))]))
            self.assertTrue(all([0 <= least[at] <= won[at] for at in range(len(won))]))
        self.assertGreater(seen, 20)

    def test_by_names(self):
        self.assertEqual(harms(choice=WON, bids=BIDS, amounts=AMOUNTS), (2, 3, 0))


class TheSumsThemselves(unittest.TestCase):
    def test_worths_of_all_sets(self):
        self.assertEqual(list(set_worths_again(AMOUNTS, BIDS).values()), [0, 6, 7, 9, 13, 9, 9, 13])

    def test_numbers(self):
        for thing in ((0, 1), (3, 1), (-3, 2), (1, 60)):
            self.assertTrue(is_number(thing))
        for thing in ((0, 2), (2, 4), (1, 0), (1, -1), (True, 1), (1, True), [1, 1], (1,), (1, 1, 1), 1, None, "11"):
            self.assertFalse(is_number(thing))


if __name__ == "__main__":
    unittest.main()
