"""Point 24, and point 3's promise of payments: in the core, nobody above the bid, nobody's alone to be lowered."""

import unittest
from fractions import Fraction

from bundleclocks.core import blocks, harms
from bundleclocks.dealing import best
from bundleclocks.lowering import lowered
from sums import (
    TWENTY, all_choices, best_by_look, fractions_of, lowered_again, random_bids, set_worths_again, won_again,
)

AMOUNTS = (2,)
BIDS = ((((1,), 6),), (((1,), 7),), (((2,), 9),))

# (amounts, bids, what is told), each of them worked out by hand.
TOLD = (
    # Nobody won, or nobody with more than 0: nobody moves.
    ((1,), ((),), (((0, 1),), ())),
    ((1,), ((((2,), 5),), ()), (((0, 1), (0, 1)), ())),
    ((1,), ((((1,), 0),), (((0,), 0),)), (((0, 1), (0, 1)), ())),
    ((0, 0), ((), (), (), (), (), ()), (((0, 1),) * 6, ())),
    # One alone comes down to 0, where the set of none binds.
    ((1,), ((((1,), 5),),), (((0, 1),), (((5, 1), ((),), (0,), ((0, 1),)),))),
    ((1,), ((((1,), TWENTY),),), (((0, 1),), (((TWENTY, 1), ((),), (0,), ((0, 1),)),))),
    # Down to the other one's bid, whose set binds.
    ((1,), ((((1,), 5),), (((1,), 3),)), (((3, 1), (0, 1)), (((2, 1), ((1,),), (0,), ((3, 1), (0, 1))),))),
    # By 0, where a set binds at the bids.
    ((1,), ((((1,), 5),), (((1,), 5),)), (((5, 1), (0, 1)), (((0, 1), ((1,),), (0,), ((5, 1), (0, 1))),))),
    # Both pay less by as much, till the third one's set binds.
    (AMOUNTS, BIDS, (((4, 1), (5, 1), (0, 1)), (((2, 1), ((2,),), (0, 1), ((4, 1), (5, 1), (0, 1))),))),
    ((2,), ((((1,), 6),), (((1,), 6),), (((2,), 9),)),
     (((9, 2), (9, 2), (0, 1)), (((3, 2), ((2,),), (0, 1), ((9, 2), (9, 2), (0, 1))),))),
    # The first one stops at 0, the other goes on, round by round.
    ((2,), ((((1,), 2),), (((1,), 7),), (((2,), 3),)),
     (((0, 1), (3, 1), (0, 1)),
      (((2, 1), ((1,), (1, 2)), (0,), ((0, 1), (5, 1), (0, 1))),
       ((2, 1), ((2,),), (1,), ((0, 1), (3, 1), (0, 1)))))),
    # Two that all come to 0 at once.
    ((2,), ((((1,), 4),), (((1,), 4),)),
     (((0, 1), (0, 1)), (((4, 1), ((), (0,), (1,)), (0, 1), ((0, 1), (0, 1))),))),
    # Two that come to 0 one behind the other: the set of none binds but when all pay 0.
    ((2,), ((((1,), 2),), (((1,), 5),)),
     (((0, 1), (0, 1)),
      (((2, 1), ((1,),), (0,), ((0, 1), (3, 1))), ((3, 1), ((), (0,)), (1,), ((0, 1), (0, 1)))))),
    # Thirds.
    ((3,), ((((1,), 5),), (((1,), 5),), (((1,), 5),), (((3,), 10),)),
     (((10, 3), (10, 3), (10, 3), (0, 1)),
      (((5, 3), ((3,),), (0, 1, 2), ((10, 3), (10, 3), (10, 3), (0, 1))),))),
)


class Lowered(unittest.TestCase):
    def assert_lowered(self, amounts, bids, choice=None):
        """Whatever is told, it is held against point 24 round by round."""
        answer = lowered(amounts, bids, choice)
        choice = best(amounts, bids) if choice is None else choice
        # By their texts, so that a truth isn't taken for a number.
        self.assertEqual(repr(answer), repr(lowered_again(amounts, bids, choice)), (amounts, bids, choice))
        return answer

    def test_told(self):
        for amounts, bids, expected in TOLD:
            with self.subTest(amounts=amounts, bids=bids):
                self.assertEqual(lowered(amounts, bids), expected)
                self.assert_lowered(amounts, bids)

    def test_told_again(self):
        rounds, bottoms, zeros = [], [], 0
        for amounts, bids in random_bids(41, 250, most_bids=6) + random_bids(42, 60):
            payments, told = self.assert_lowered(amounts, bids)
            rounds.append(len(told))
            bottoms += [payment[1] for payment in payments]
            zeros += bool(told) and payments == ((0, 1),) * len(bids)
        self.assertGreater(len([many for many in rounds if many > 1]), 50)
        self.assertGreater(rounds.count(0), 5)
        self.assertGreater(len([bottom for bottom in bottoms if bottom > 1]), 20)
        self.assertGreater(zeros, 10)

    def test_of_each_best_choice(self):
        others = 0
        for amounts, bids in random_bids(43, 150, most_bidders=4, most_bids=3):
            most = best_by_look(amounts, bids)[1]
            for choice in [choice for choice, total in all_choices(amounts, bids) if total == most][:5]:
                self.assert_lowered(amounts, bids, choice)
                others += choice != best(amounts, bids)
        self.assertGreater(others, 50)

    def test_another_best_choice_by_hand(self):
        bids = ((((1,), 5),), (((1,), 5),))
        self.assertEqual(lowered((1,), bids, (0, None)), lowered((1,), bids))
        self.assertEqual(lowered((1,), bids, (None, 0)),
                         (((0, 1), (5, 1)), (((0, 1), ((0,),), (1,), ((0, 1), (5, 1))),)))
        self.assertEqual(lowered((1,), bids, None), lowered((1,), bids))
        # Of the same bundle twice, and of nothing for 0 or None.
        self.assertEqual(lowered((1,), ((((1,), 5), ((1,), 5)),), (1,)), lowered((1,), ((((1,), 5),),)))
        self.assertEqual(lowered((1,), ((((0,), 0),),), (None,)), (((0, 1),), ()))

    def test_bids_for_nothing_are_paid_down_to_0(self):
        self.assertEqual(lowered((0,), ((((0,), 5),),)), (((0, 1),), (((5, 1), ((),), (0,), ((0, 1),)),)))

    def test_what_point_3_promises(self):
        for amounts, bids in random_bids(44, 200, most_bids=6):
            payments, rounds = lowered(amounts, bids)
            choice = best(amounts, bids)
            self.assertIsNone(blocks(amounts, bids, choice, payments))
            won, paid = won_again(bids, choice), fractions_of(payments)
            self.assertTrue(all([0 <= paid[at] <= won[at] for at in range(len(bids))]))
            self.assertTrue(all([one >= least for one, least in zip(paid, harms(amounts, bids, choice))]))
            self.assert_none_alone_lowered(amounts, bids, won, paid)

    def assert_none_alone_lowered(self, amounts, bids, won, paid):
        worth_of = set_worths_again(amounts, bids)
        for bidder in range(len(bids)):
            less = [paid[at] - Fraction(1, 10 ** 30) * (at == bidder) for at in range(len(bids))]
            blocked = [
                some for some, worth in worth_of.items()
                if worth > sum([won[at] if at in some else less[at] for at in range(len(bids))])
            ]
            self.assertTrue(less[bidder] < 0 or blocked)

    def test_the_last_rounds_payments_are_the_told_ones(self):
        for amounts, bids in random_bids(45, 60, most_bids=5):
            payments, rounds = lowered(amounts, bids)
            if rounds:
                self.assertEqual(rounds[-1][3], payments)
            else:
                self.assertEqual(payments, ((0, 1),) * len(bids))
            stopped = [place for told in rounds for place in told[2]]
            winners = [at for at, money in enumerate(won_again(bids, best(amounts, bids))) if money > 0]
            self.assertEqual(sorted(stopped), winners)

    def test_by_names_and_again(self):
        told = lowered(AMOUNTS, BIDS)
        self.assertEqual(lowered(choice=(0, 0, None), bids=BIDS, amounts=AMOUNTS), told)
        self.assertEqual(lowered(bids=BIDS, amounts=AMOUNTS), told)
        self.assertEqual(lowered(AMOUNTS, BIDS, choice=None), told)
        self.assertEqual(lowered(AMOUNTS, BIDS), told)

    def test_somewhat_beyond_the_bounds(self):
        bids = tuple([tuple([((at % 6,), at * bidder) for at in range(24)]) for bidder in range(7)])
        self.assert_lowered((6,), bids)


class TheSumsThemselves(unittest.TestCase):
    def test_by_hand(self):
        for amounts, bids, expected in TOLD:
            self.assertEqual(lowered_again(amounts, bids, best_by_look(amounts, bids)[0]), expected)


if __name__ == "__main__":
    unittest.main()
