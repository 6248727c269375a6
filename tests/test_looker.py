"""Point 25, and point 3's promise that just one of two is let by, whoever wrote it."""

import random
import unittest

from bundleclocks.dealing import best, best_table
from bundleclocks.looker import holds
from bundleclocks.lowering import lowered
from bundleclocks.worths import worths
from sums import (
    MILLION, TWELVE_IN_A_RING, TWENTY, all_choices, any_things, holds_again, otherwise, part_at, paths_of, put_at,
    random_bids, random_cases,
)

ROUNDS = (((5, 3), (1, 2)), ((6, 4), (0, 2)))
SEALED = (((0, 2), 9), ((2, 2), 19))
ROW = (((0, 0), 0), ((1, 2), 14), ((0, 2), 9), ((2, 2), 19))
WORTHS = ("worths", 2, ROUNDS, ())
# By the second round two coal are worth 8 at least.
RING = ("ring", 2, ROUNDS, (((0, 2), 7),))
RING_PAPER = (("bid", 0, (0, 2)), ("round", 1, (0, 0)))

AMOUNTS = (2,)
BIDS = ((((1,), 6),), (((1,), 7), ((2,), 8)), (((2,), 9),))
CHOICE = (0, 0, None)
BEST = ("best", AMOUNTS, BIDS, CHOICE)
CORE = ("core", AMOUNTS, BIDS, CHOICE)
TABLE = ((0, 7, 13), (0, 7, 9), (0, 0, 9), (0, 0, 0))
PAYMENTS = ((4, 1), (5, 1), (0, 1))


class Looking(unittest.TestCase):
    def assert_holds(self, claim, paper, expected=True):
        answer = holds(claim, paper)
        self.assertIs(answer, expected, (claim, paper))
        self.assertIs(holds_again(claim, paper), expected, (claim, paper))

    def assert_each_part_otherwise(self, claim, paper):
        """With any part of the claim or the paper put otherwise the answer is what the sums tell."""
        answers = []
        whole = (claim, paper)
        for path in paths_of(whole)[1:]:
            for part in otherwise(part_at(whole, path)):
                other = put_at(whole, path, part)
                answers.append(holds_again(*other))
                self.assertIs(holds(*other), answers[-1], other)
        return answers


class Worths(Looking):
    def test_told_ones(self):
        words = []
        for rounds, sealed, kinds in random_cases(51, 400):
            word, paper = worths(rounds, sealed, kinds=kinds)
            words.append(word)
            self.assert_holds((word, kinds, rounds, sealed), paper)
            # Just one of two is let by.
            other = {"worths": "ring", "ring": "worths"}[word]
            self.assert_holds((other, kinds, rounds, sealed), paper, False)
        self.assertGreater(min(words.count("ring"), words.count("worths")), 80)

    def test_of_nothing_told(self):
        for kinds in (1, 2, 3):
            self.assert_holds(("worths", kinds, (), ()), (((0,) * kinds, 0),))
            self.assert_holds(("worths", kinds, (), ()), (), False)
            self.assert_holds(("worths", kinds, (), ()), (((0,) * kinds, 1),), False)
            self.assert_holds(("worths", kinds, (), ()), (((0,) * (kinds + 1), 0),), False)

    def test_what_others_wrote(self):
        # At the first prices (1, 2) must be as good as (0, 2), at the second ones the other way about.
        for money in range(5, 25):
            for other in range(5, 15):
                expected = money >= 11 and other >= 8 and 5 <= money - other <= 6
                self.assert_holds(WORTHS, (((0, 0), 0), ((1, 2), money), ((0, 2), other)), expected)
        self.assert_holds(WORTHS, (((0, 0), 0), ((1, 2), TWENTY + 5), ((0, 2), TWENTY)))
        self.assert_holds(("worths", 2, ROUNDS, SEALED), ROW)
        self.assert_holds(("worths", 2, ROUNDS, SEALED), ROW[:1] + (((1, 2), 15),) + ROW[2:])

    def test_the_order_told(self):
        row = (((0, 0), 0), ((1, 2), 14), ((0, 2), 9))
        self.assert_holds(WORTHS, row)
        for other in (row[::-1], row[1:], row[:2], row + row[:1], row + (((9, 9), 0),), (row[0], row[2], row[1]),
                      list(row), (row,), row[1:] + row[:1]):
            self.assert_holds(WORTHS, other, False)

    def test_sealed_ones_are_worth_their_money(self):
        self.assert_holds(("worths", 1, (), (((1,), 5),)), (((0,), 0), ((1,), 5)))
        for money in (4, 6, 0, -5):
            self.assert_holds(("worths", 1, (), (((1,), 5),)), (((0,), 0), ((1,), money)), False)

    def test_each_part_otherwise(self):
        answers = self.assert_each_part_otherwise(("worths", 2, ROUNDS, SEALED), ROW)
        self.assertGreater(len(answers), 500)
        self.assert_each_part_otherwise(WORTHS, (((0, 0), 0), ((1, 2), 14), ((0, 2), 9)))
        self.assert_each_part_otherwise(("worths", 1, (((0,), (1,)),), (((1,), 1),)), (((0,), 0), ((1,), 1)))

    def test_truths_in_place_of_numbers(self):
        claim, row = ("worths", 1, (((0,), (1,)),), (((1,), 1),)), (((0,), 0), ((1,), 1))
        self.assert_holds(claim, row)
        for other in (((("worths", True) + claim[2:]), row), (claim, (((False,), 0), ((1,), 1))),
                      (claim, (((0,), False), ((1,), 1))), (claim, (((0,), 0), ((True,), 1))),
                      (claim, (((0,), 0), ((1,), True))), (claim[:2] + ((((False,), (1,)),), claim[3]), row),
                      (claim[:2] + ((((0,), (True,)),), claim[3]), row), (claim[:3] + ((((True,), 1),),), row),
                      (claim[:3] + ((((1,), True),),), row)):
            self.assert_holds(*other, False)

    def test_at_the_edges_of_point_6(self):
        nothing = (((0,), 0),)
        for rounds, sealed, row, expected in (
            ((((3,), (0,)),) * 12, (), nothing, True),
            ((((3,), (0,)),) * 13, (), nothing, False),
            ((((MILLION,), (0,)),), (), nothing, True),
            ((((MILLION + 1,), (0,)),), (), nothing, False),
            ((((-1,), (0,)),), (), nothing, False),
            ((((3,), (-1,)),), (), nothing + (((-1,), 0),), False),
            ((), tuple([((at,), at) for at in range(1, 13)]), tuple([((at,), at) for at in range(13)]), True),
            ((), tuple([((at,), at) for at in range(1, 14)]), tuple([((at,), at) for at in range(14)]), False),
            ((), (((0,), 0),), nothing, False),
            ((), (((1,), 4), ((1,), 4)), nothing + (((1,), 4),), False),
            ((), (((1,), -1),), nothing + (((1,), -1),), False),
            ((), (((1,), 0),), nothing + (((1,), 0),), True),
            ((), (((1,), TWENTY),), nothing + (((1,), TWENTY),), True),
        ):
            self.assert_holds(("worths", 1, rounds, sealed), row, expected)
        for kinds in (0, 4, -1, 5):
            self.assert_holds(("worths", kinds, (), ()), (((0,) * max(kinds, 0), 0),), False)


class Rings(Looking):
    def test_what_others_wrote(self):
        self.assert_holds(RING, RING_PAPER)
        self.assert_holds(RING, RING_PAPER[1:] + RING_PAPER[:1])
        self.assert_holds(RING, RING_PAPER * 2)
        self.assert_holds(RING, RING_PAPER + (("free", 0, (0, 0)),))
        self.assert_holds(RING, RING_PAPER + (("bid", 0, (0, 2)), ("round", 1, (0, 2)), ("due", 0, (0, 2))))
        # At most forty steps.
        self.assert_holds(RING, RING_PAPER * 20)
        self.assert_holds(RING, RING_PAPER * 20 + (("free", 0, (0, 0)),), False)
        self.assert_holds(RING, RING_PAPER * 21, False)

    def test_what_is_no_ring(self):
        for paper in ((), RING_PAPER[:1], RING_PAPER[1:], RING_PAPER[::-1] + RING_PAPER[:1], list(RING_PAPER),
                      (list(RING_PAPER[0]), RING_PAPER[1]), RING_PAPER[:1] * 2, (("free", 0, (0, 0)),),
                      (("bid", 0, (0, 2)), ("free", 0, (0, 2))), (("bid", 0, (0, 2)), ("due", 0, (0, 2))),
                      (("bid", 0, (0, 2)), ("round", 1, (1, 2)), ("free", 0, (1, 2))),
                      (("round", 0, (0, 0)), ("bid", 0, (1, 2))), (("round", 2, (0, 0)), ("bid", 0, (0, 2))),
                      (("round", -1, (0, 0)), ("bid", 0, (0, 2))), (("round", 1, (0, 0)), ("bid", 1, (0, 2))),
                      (("round", 1, (0, 0)), ("bid", -1, (0, 2))), (("bid", 0, (0, 2)), ("round", 1, (9, 9))),
                      RING_PAPER + (("free", 1, (0, 0)),), RING_PAPER + (("Free", 0, (0, 0)),)):
            self.assert_holds(RING, paper, False)

    def test_the_weights_come_to_less_than_0(self):
        self.assert_holds(("ring", 2, ROUNDS, (((0, 2), 8),)), RING_PAPER, False)
        self.assert_holds(("ring", 2, ROUNDS, (((0, 2), 9),)), RING_PAPER, False)
        self.assert_holds(("ring", 2, ROUNDS, (((0, 2), 0),)), RING_PAPER)

    def test_each_kind_of_step(self):
        rounds, sealed = (((2, 2), (1, 0)),), (((1, 0), 4), ((0, 1), 5))
        claim = ("ring", 2, rounds, sealed)
        paper = (("bid", 0, (1, 0)), ("round", 0, (0, 1)), ("due", 1, (0, 1)))
        self.assert_holds(claim, paper)
        self.assert_holds(claim, paper + (("free", 0, (0, 0)),) * 3)
        self.assert_holds(claim, paper[:2] + (("free", 0, (0, 1)),), False)
        self.assert_each_part_otherwise(claim, paper)

    def test_each_part_otherwise(self):
        answers = self.assert_each_part_otherwise(RING, RING_PAPER)
        self.assertGreater(len(answers), 300)
        claim = ("ring", 1, (((1,), (1,)),), (((1,), 0),))
        self.assert_holds(claim, (("bid", 0, (1,)), ("round", 0, (0,))))
        self.assert_each_part_otherwise(claim, (("bid", 0, (1,)), ("round", 0, (0,))))
        self.assert_each_part_otherwise(claim, (("bid", 0, (1,)), ("round", 0, (0,)), ("free", 0, (0,))))

    def test_truths_in_place_of_numbers(self):
        claim = ("ring", 1, (((1,), (1,)),), (((1,), 0),))
        paper = (("bid", 0, (1,)), ("round", 0, (0,)), ("free", 0, (0,)))
        self.assert_holds(claim, paper)
        for part, path in ((False, (0, 1)), (True, (0, 2, 0)), (False, (1, 1)), (False, (1, 2, 0)), (False, (2, 1)),
                           (False, (2, 2, 0))):
            self.assert_holds(claim, put_at(paper, path, part), False)

    def test_of_twelve(self):
        paper = worths(TWELVE_IN_A_RING, kinds=2)[1]
        self.assert_holds(("ring", 2, TWELVE_IN_A_RING, ()), paper)
        for at in range(12):
            rounds = TWELVE_IN_A_RING[:at] + TWELVE_IN_A_RING[at + 1:]
            self.assert_holds(("ring", 2, rounds, ()), paper, False)


class Best(Looking):
    def test_told_ones(self):
        for amounts, bids in random_bids(52, 80):
            self.assert_holds(("best", amounts, bids, best(amounts, bids)), best_table(amounts, bids))

    def test_each_choice(self):
        seen = []
        for amounts, bids in random_bids(53, 60, most_bidders=3, most_bids=3):
            table = best_table(amounts, bids)
            most = max([total for choice, total in all_choices(amounts, bids)])
            for choice, total in all_choices(amounts, bids):
                self.assert_holds(("best", amounts, bids, choice), table, total == most)
                seen.append(total == most)
        self.assertGreater(min(seen.count(True), seen.count(False)), 50)

    def test_what_others_wrote(self):
        self.assert_holds(BEST, TABLE)
        self.assert_holds(BEST, ((9, 9, 13), (0, 7, 9), (0, 0, 9), (0, 0, 0)))
        self.assert_holds(BEST, ((0, 7, 14), (0, 7, 9), (0, 0, 9), (0, 0, 0)), False)
        self.assert_holds(BEST, ((0, 7, 13), (0, 7, 8), (0, 0, 9), (0, 0, 0)), False)
        # A higher bound is shown, but it is not what the choice brings.
        raised = tuple([tuple([part + 1 for part in layer]) for layer in TABLE])
        self.assert_holds(BEST, raised, False)

    def test_each_part_otherwise(self):
        answers = self.assert_each_part_otherwise(BEST, TABLE)
        self.assertGreater(len(answers), 400)
        self.assertIn(True, answers)
        self.assert_each_part_otherwise(("best", (1,), ((((1,), 1), ((0,), 0)),), (0,)), ((0, 1), (0, 0)))

    def test_at_the_edges_of_point_19(self):
        one = (((1,), 2),)
        for amounts, bids, expected in (
            ((4,), (one,), True), ((5,), (one,), False), ((0,), (one,), True), ((4, 4, 4), ((),), True),
            ((0, 0, 0, 0), ((),), False), ((1,), (one,) * 6, True), ((1,), (one,) * 7, False),
            ((1,), (one * 20,), True), ((1,), (one * 21,), False), ((1,), ((),), True),
            ((1,), ((((9,), TWENTY),),), True), ((1,), ((((0,), 0),),), True),
        ):
            self.assert_holds(("best", amounts, bids, best(amounts, bids)), best_table(amounts, bids), expected)
        # Each of the amounts counts, not one of them alone.
        for amounts in ((5, 1), (1, 5), (5, 0, 1), (0, 5, 1), (1, 0, 5)):
            bids = ((((0,) * len(amounts), 2),),)
            self.assert_holds(("best", amounts, bids, (0,)), best_table(amounts, bids), False)
            self.assert_holds(("core", amounts, bids, (0,)), ((0, 1),), False)
        for amounts in ((True, 1), (1, True), (1, False)):
            bids = ((((0, 0), 2),),)
            self.assert_holds(("best", amounts, bids, (0,)), best_table((1, int(amounts[1])), bids), False)
        self.assert_holds(("best", (1,), (), ()), ((0, 0),), False)
        self.assert_holds(("best", (), ((),), (None,)), ((0,), (0,)), False)
        self.assert_holds(("best", (-1,), ((),), (None,)), ((), ()), False)
        self.assert_holds(("best", (1,), ((((1,), -1),),), (None,)), ((0, 0), (0, 0)), False)
        self.assert_holds(("best", (1,), ((((1, 0), 1),),), (None,)), ((0, 0), (0, 0)), False)


class Core(Looking):
    def test_told_ones(self):
        for amounts, bids in random_bids(54, 120, most_bids=6):
            choice = best(amounts, bids)
            self.assert_holds(("core", amounts, bids, choice), lowered(amounts, bids)[0])

    def test_of_another_best_choice(self):
        bids = ((((1,), 5),), (((1,), 5),))
        self.assert_holds(("core", (1,), bids, (0, None)), ((5, 1), (0, 1)))
        self.assert_holds(("core", (1,), bids, (None, 0)), ((0, 1), (5, 1)))
        self.assert_holds(("core", (1,), bids, (None, None)), ((0, 1), (0, 1)), False)

    def test_what_others_wrote(self):
        # The first two must pay 9 together, and no more, each of them at most the bid.
        for first in range(-1, 8):
            for second in range(-1, 9):
                expected = first + second == 9 and first <= 6 and second <= 7
                self.assert_holds(CORE, ((first, 1), (second, 1), (0, 1)), expected)
        self.assert_holds(CORE, ((9, 2), (9, 2), (0, 1)))
        self.assert_holds(CORE, ((14, 3), (13, 3), (0, 1)))
        self.assert_holds(CORE, ((14, 3), (14, 3), (0, 1)), False)
        self.assert_holds(CORE, ((13, 3), (13, 3), (0, 1)), False)

    def test_what_is_no_core(self):
        for payments in (((6, 1), (7, 1), (0, 1)), ((0, 1), (0, 1), (0, 1)), ((7, 1), (2, 1), (0, 1)),
                         ((2, 1), (7, 1), (1, 1)), ((1, 1), (8, 1), (0, 1)), ((5, 1), (5, 1), (-1, 1))):
            self.assert_holds(CORE, payments, False)

    def test_what_are_no_payments(self):
        for payments in (None, True, (), PAYMENTS[:2], PAYMENTS + ((0, 1),), list(PAYMENTS), (4, 5, 0),
                         ((8, 2), (5, 1), (0, 1)), ((4, 1), (5, 1), (0, 2)), ((4, 1), (5, 1), (0, 0)),
                         ((-4, -1), (5, 1), (0, 1)), ((4, 1), (5, True), (0, 1)), ((4, 1), (5, 1), (False, 1)),
                         ([4, 1], (5, 1), (0, 1)), ((4, 1), (5, 1), None), ((4, 1, 1), (5, 1), (0, 1)),
                         ((4,), (5, 1), (0, 1)), (("4", 1), (5, 1), (0, 1))):
            self.assert_holds(CORE, payments, False)

    def test_each_part_otherwise(self):
        answers = self.assert_each_part_otherwise(CORE, PAYMENTS)
        self.assertGreater(len(answers), 300)
        self.assertIn(True, answers)
        self.assert_each_part_otherwise(("core", (1,), ((((1,), 1),),), (0,)), ((0, 1),))
        self.assert_each_part_otherwise(("core", (1,), ((((1,), 2),), (((1,), 1),)), (0, None)), ((1, 1), (0, 1)))

    def test_a_choice_that_is_not_best(self):
        self.assert_holds(("core", AMOUNTS, BIDS, (None, None, 0)), ((0, 1), (0, 1), (9, 1)), False)
        self.assert_holds(("core", AMOUNTS, BIDS, (None, 1, None)), ((0, 1), (8, 1), (0, 1)), False)

    def test_some_who_pay_more_than_need_be(self):
        rng = random.Random(55)
        seen = []
        for amounts, bids in random_bids(56, 200, most_bids=4):
            choice = best(amounts, bids)
            payments = lowered(amounts, bids)[0]
            at = rng.randrange(len(bids))
            top, bottom = payments[at]
            other = payments[:at] + ((top + bottom * rng.choice((1, -1)), bottom),) + payments[at + 1:]
            claim = ("core", amounts, bids, choice)
            seen.append(holds_again(claim, other))
            self.assert_holds(claim, other, seen[-1])
            won = tuple([(0 if place is None else bids[who][place][1], 1) for who, place in enumerate(choice)])
            seen.append(holds_again(claim, won))
            self.assert_holds(claim, won, seen[-1])
        self.assertGreater(min(seen.count(True), seen.count(False)), 20)


class AnyThings(Looking):
    def test_claims_and_papers(self):
        pairs = ((WORTHS, (((0, 0), 0), ((1, 2), 14), ((0, 2), 9))), (RING, RING_PAPER), (BEST, TABLE),
                 (CORE, PAYMENTS))
        for claim, paper in pairs:
            self.assert_holds(claim, paper)
            for thing in any_things():
                self.assert_holds(thing, paper, False)
                self.assert_holds(claim, thing, False)
                self.assert_holds(paper, claim, False)
                for at in range(4):
                    other = put_at(claim, (at,), thing)
                    self.assert_holds(other, paper, repr(other) == repr(claim))
        for thing in any_things():
            for other in any_things():
                self.assert_holds(thing, other, False)

    def test_papers_of_other_claims(self):
        claims = (("worths", 2, ROUNDS, SEALED), RING, BEST, CORE)
        papers = (ROW, RING_PAPER, TABLE, PAYMENTS)
        for at, claim in enumerate(claims):
            for place, paper in enumerate(papers):
                self.assert_holds(claim, paper, at == place)
            for word in ("worths", "ring", "best", "core", "", "Core", "cores", "core "):
                self.assert_holds((word,) + claim[1:], papers[at], word == claim[0])
            self.assert_holds(claim + (0,), papers[at], False)
            self.assert_holds(claim[:3], papers[at], False)
            self.assert_holds(list(claim), papers[at], False)

    def test_by_names_and_nothing_is_changed(self):
        self.assertIs(holds(paper=TABLE, claim=BEST), True)
        claim, paper = ["best", [1], [[]], [None]], [[0, 0], [0, 0]]
        self.assertIs(holds(claim, paper), False)
        self.assertIs(holds(("best", (1,), ([],), (None,)), (paper,)), False)
        self.assertEqual((claim, paper), (["best", [1], [[]], [None]], [[0, 0], [0, 0]]))


if __name__ == "__main__":
    unittest.main()
