"""Points 19 and 20, and point 3's promise that no dealing brings more than the told one, the first of several."""

import random
import unittest
from itertools import product

from bundleclocks.dealing import best, best_table, brings, shows
from bundleclocks.errors import NoChoice
from sums import (
    TWENTY, all_choices, best_by_look, bound_again, bundles_again, choice_sum, first_best_again, most_again,
    random_bids,
)

AMOUNTS = (2, 1)
BIDS = (
    (((1, 0), 5), ((2, 1), 30), ((0, 0), 4)),
    (((1, 1), 12), ((1, 0), 7), ((3, 0), 99)),
    (),
    (((0, 1), 9), ((0, 1), 9)),
)
LARGE = ((4, 4, 4), tuple([
    tuple([((at % 3, (at + bidder) % 4, at // 5), 7 * at + bidder) for at in range(20)]) for bidder in range(6)
]))
TWENTY_FIGURES = ((2,), ((((1,), TWENTY), ((2,), TWENTY)), (((1,), TWENTY),)))

# (amounts, bids, the best choice).
TOLD = (
    # No bids at all, of one and of six bidders.
    ((1,), ((),), (None,)),
    ((0,), ((),), (None,)),
    ((4, 4, 4), ((), (), (), (), (), ()), (None,) * 6),
    # One bidder.
    ((1,), ((((1,), 5),),), (0,)),
    ((1,), ((((1,), 5), ((1,), 6)),), (1,)),
    ((1,), ((((2,), 5),),), (None,)),
    ((1,), ((((2,), 5), ((1,), 1)),), (1,)),
    # Of several the first: the lesser place, and None behind all places.
    ((1,), ((((1,), 5), ((1,), 5)),), (0,)),
    ((1,), ((((1,), 0),),), (0,)),
    ((1,), ((((0,), 0), ((1,), 0)),), (0,)),
    ((1,), ((((1,), 5),), (((1,), 5),)), (0, None)),
    ((1,), ((((1,), 0),), (((1,), 0),)), (0, None)),
    ((1,), ((), (((1,), 3),), (((1,), 3),)), (None, 0, None)),
    ((2,), ((((2,), 6), ((1,), 3)), (((1,), 3),)), (0, None)),
    ((2,), ((((1,), 3), ((2,), 6)), (((1,), 3),)), (0, 0)),
    ((1,), ((((1,), 0),), (((1,), 3),)), (None, 0)),
    ((2, 2), ((((1, 1), 4), ((2, 0), 4)), (((1, 1), 4), ((0, 2), 4))), (0, 0)),
    ((2, 2), ((((1, 2), 4), ((2, 0), 4)), (((1, 1), 4), ((0, 2), 4))), (1, 1)),
    # A bundle twice: the dearer one, wherever it stands.
    ((1, 0), ((((1, 0), 3), ((0, 0), 1), ((1, 0), 8)),), (2,)),
    ((1, 0), ((((1, 0), 8), ((0, 0), 1), ((1, 0), 3)),), (0,)),
    # Bids for nothing fit wherever.
    ((0,), ((((0,), 2),), (((0,), 3), ((0,), 4)), (((0,), 0),)), (0, 1, 0)),
    ((0, 0, 0), ((((0, 0, 0), 2), ((0, 0, 1), 9)),), (0,)),
    ((1,), ((((1,), 5), ((0,), 5)), (((1,), 5),)), (1, 0)),
    # What is beyond the amounts can't win, however dear.
    ((4,), ((((5,), TWENTY), ((4,), 1)),), (1,)),
    ((4, 0), ((((1, 1), TWENTY),), (((4, 0), 0),)), (None, 0)),
    # Twenty figures.
    TWENTY_FIGURES + ((0, 0),),
    # Many small ones against a large one.
    ((3,), ((((3,), 10),), (((1,), 4),), (((1,), 4),), (((1,), 4),)), (None, 0, 0, 0)),
    ((3,), ((((3,), 12),), (((1,), 4),), (((1,), 4),), (((1,), 4),)), (0, None, None, None)),
    ((3,), ((((3,), 11),), (((1,), 4),), (((1,), 4),), (((1,), 4),)), (None, 0, 0, 0)),
    (AMOUNTS, BIDS, (1, None, None, None)),
)

NO_CHOICES = (
    None, True, False, 0, 4, -1, "", "abcd", [], [None] * 4, [0, 1, None, None], (), (None,), (None,) * 3, (None,) * 5,
    (0, 1, None, None, None), ((None,) * 4,), ([0, 1, None, None],), TWENTY, (None,) * 2999, [[[[[[[[0]]]]]]]],
)
# No place of a bid of whoever it is, and not None.
NO_PLACES = (
    True, False, -1, -2, -3, 3, 4, 20, TWENTY, -TWENTY, "", "0", "a", " ", (), (0,), (None,), [], [0], [None], [[]],
    ((((((),),),),),),
)


def put(row, at, part):
    return row[:at] + (part,) + row[at + 1:]


def small_cases(seed, many):
    """Small enough to look at all choices."""
    return random_bids(seed, many, most_bidders=4, most_bids=4)


class Refusing(unittest.TestCase):
    def assert_refused(self, amounts, bids, choice, place):
        with self.assertRaises(NoChoice) as refused:
            brings(amounts, bids, choice)
        self.assertEqual(refused.exception.place, place, choice)
        self.assertIs(type(refused.exception.place), type(place))


class Brings(Refusing):
    def assert_brings(self, amounts, bids, choice, expected):
        answer = brings(amounts, bids, choice)
        self.assertEqual(answer, expected, choice)
        self.assertIs(type(answer), int)

    def test_the_sum_of_its_bids_money(self):
        self.assert_brings(AMOUNTS, BIDS, (None, None, None, None), 0)
        self.assert_brings(AMOUNTS, BIDS, (0, None, None, None), 5)
        self.assert_brings(AMOUNTS, BIDS, (0, 0, None, None), 17)
        self.assert_brings(AMOUNTS, BIDS, (0, 1, None, 0), 21)
        self.assert_brings(AMOUNTS, BIDS, (0, 1, None, 1), 21)
        self.assert_brings(AMOUNTS, BIDS, (2, 0, None, None), 16)
        self.assert_brings(AMOUNTS, BIDS, (1, None, None, None), 30)
        self.assert_brings(AMOUNTS, BIDS, (None, None, None, 1), 9)
        self.assert_brings((0,), ((((0,), 0),),), (0,), 0)
        self.assert_brings((1,), ((),), (None,), 0)

    def test_of_twenty_figures(self):
        self.assert_brings(*TWENTY_FIGURES, (0, 0), 2 * TWENTY)
        self.assert_brings(*TWENTY_FIGURES, (1, None), TWENTY)

    def test_the_last_place_of_twenty(self):
        amounts, bids = LARGE
        for at in range(20):
            self.assert_brings(amounts, bids, (None,) * 5 + (at,), 7 * at + 5)
        self.assert_refused(amounts, bids, (None,) * 5 + (20,), 5)

    def test_what_is_no_tuple_of_so_many(self):
        for thing in NO_CHOICES:
            with self.subTest(thing=repr(thing)[:40]):
                self.assert_refused(AMOUNTS, BIDS, thing, None)
        self.assert_refused((1,), ((),), (), None)
        self.assert_refused((1,), ((),), (None, None), None)

    def test_what_is_no_place(self):
        for thing in NO_PLACES:
            for bidder in range(4):
                with self.subTest(thing=thing, bidder=bidder):
                    self.assert_refused(AMOUNTS, BIDS, put((None,) * 4, bidder, thing), bidder)

    def test_a_truth_is_no_place_where_its_number_is_one(self):
        self.assert_brings((1,), ((((1,), 5), ((1,), 6)),), (0,), 5)
        self.assert_refused((1,), ((((1,), 5), ((1,), 6)),), (False,), 0)
        self.assert_refused((1,), ((((1,), 5), ((1,), 6)),), (True,), 0)

    def test_places_of_one_who_has_no_bids(self):
        for place in (0, -1, 1):
            self.assert_refused(AMOUNTS, BIDS, (None, None, place, None), 2)

    def test_more_than_is_left_by_those_ahead(self):
        self.assert_refused(AMOUNTS, BIDS, (1, 0, None, None), 1)
        self.assert_refused(AMOUNTS, BIDS, (1, 1, None, None), 1)
        self.assert_refused(AMOUNTS, BIDS, (None, 0, None, 0), 3)
        self.assert_refused(AMOUNTS, BIDS, (1, None, None, 1), 3)
        self.assert_refused(AMOUNTS, BIDS, (None, 2, None, None), 1)
        self.assert_refused((0,), ((((1,), 0),),), (0,), 0)

    def test_the_first_of_several(self):
        self.assert_refused(AMOUNTS, BIDS, ("a", "b", "c", "d"), 0)
        self.assert_refused(AMOUNTS, BIDS, (None, -1, 0, True), 1)
        self.assert_refused(AMOUNTS, BIDS, (1, 0, 0, 5), 1)
        self.assert_refused(AMOUNTS, BIDS, (1, 7, None, 0), 1)
        self.assert_refused(AMOUNTS, BIDS, (0, 0, [], 0), 2)
        # The one that doesn't fit is not the dearest or the last, but the first that is more than is left.
        self.assert_refused((1,), ((((1,), 5),), (((1,), 9),), (((1,), 9),)), (0, 0, 0), 1)

    def test_told_again_of_all_that_may_be_places(self):
        for amounts, bids in small_cases(1, 60):
            every = [list(range(len(row))) + [None] for row in bids]
            for choice in list(product(*every))[:300]:
                expected = choice_sum(amounts, bids, choice)
                if expected is not None:
                    self.assert_brings(amounts, bids, choice, expected)
                else:
                    ahead = [choice[:at] + (None,) * (len(bids) - at) for at in range(1, len(bids) + 1)]
                    place = [choice_sum(amounts, bids, one) for one in ahead].index(None)
                    self.assert_refused(amounts, bids, choice, place)

    def test_by_names(self):
        self.assertEqual(brings(choice=(0, 1, None, 0), bids=BIDS, amounts=AMOUNTS), 21)
        self.assertEqual(brings(AMOUNTS, BIDS, choice=(0, 1, None, 0)), 21)
        self.assertRaises(TypeError, brings, AMOUNTS, BIDS)


class Best(unittest.TestCase):
    def assert_best(self, amounts, bids, expected):
        answer = best(amounts, bids)
        self.assertEqual(answer, expected, (amounts, bids))
        self.assertIs(type(answer), tuple)
        self.assertEqual([type(part) for part in answer], [type(part) for part in expected])

    def test_told(self):
        for amounts, bids, expected in TOLD:
            with self.subTest(amounts=amounts, bids=bids):
                self.assert_best(amounts, bids, expected)

    def test_by_a_look_at_all_choices(self):
        ties = 0
        for amounts, bids in small_cases(2, 400):
            choice, most = best_by_look(amounts, bids)
            self.assert_best(amounts, bids, choice)
            ties += [total for other, total in all_choices(amounts, bids)].count(most) > 1
        self.assertGreater(ties, 100)

    def test_ties_of_all_kinds(self):
        rng = random.Random(3)
        for turn in range(300):
            amounts = tuple([rng.randint(0, 2) for kind in range(1 + turn % 2)])
            bids = tuple([
                tuple([(tuple([rng.randint(0, 1) for amount in amounts]), rng.randint(0, 1)) for at in range(3)])
                for bidder in range(4)
            ])
            self.assert_best(amounts, bids, best_by_look(amounts, bids)[0])

    def test_the_most_of_larger_ones(self):
        for amounts, bids in random_bids(4, 60) + [LARGE]:
            choice = best(amounts, bids)
            self.assertEqual(choice_sum(amounts, bids, choice), most_again(amounts, bids))
            self.assertEqual(brings(amounts, bids, choice), most_again(amounts, bids))

    def test_the_first_of_larger_ones(self):
        for amounts, bids in random_bids(5, 60) + [LARGE]:
            self.assert_best(amounts, bids, first_best_again(amounts, bids))

    def test_by_names_and_again(self):
        self.assertEqual(best(bids=BIDS, amounts=AMOUNTS), (1, None, None, None))
        self.assertEqual(best(AMOUNTS, bids=BIDS), best(AMOUNTS, BIDS))

    def test_somewhat_beyond_the_bounds(self):
        bids = tuple([tuple([((at % 6,), at) for at in range(24)]) for bidder in range(7)])
        self.assertEqual(choice_sum((6,), bids, best((6,), bids)), most_again((6,), bids))


class Tables(unittest.TestCase):
    def test_told_tables_have_their_form_and_show_the_best_sum(self):
        cases = [(amounts, bids) for amounts, bids, choice in TOLD] + random_bids(6, 60) + [LARGE]
        for amounts, bids in cases:
            table = best_table(amounts, bids)
            self.assertEqual([type(table)] + [type(layer) for layer in table], [tuple] * (len(bids) + 2))
            self.assertEqual([len(layer) for layer in table], [len(bundles_again(amounts))] * (len(bids) + 1))
            self.assertEqual({type(part) for layer in table for part in layer}, {int})
            most = most_again(amounts, bids)
            self.assertEqual(bound_again(amounts, bids, table), most)
            self.assertEqual(shows(amounts, bids, table), most)
            self.assertIs(type(shows(amounts, bids, table)), int)

    def test_by_names_and_again(self):
        table = best_table(bids=BIDS, amounts=AMOUNTS)
        self.assertEqual(table, best_table(AMOUNTS, BIDS))
        self.assertEqual(shows(table=table, bids=BIDS, amounts=AMOUNTS), 30)


class Shows(unittest.TestCase):
    # One kind, two pieces: what nobody can bring, what the second bidder can, what both can.
    amounts, bids = (2,), ((((1,), 5), ((2,), 6)), (((1,), 3),))
    table = ((0, 5, 8), (0, 3, 3), (0, 0, 0))

    def assert_shows(self, table, expected, amounts=None, bids=None):
        amounts = self.amounts if amounts is None else amounts
        bids = self.bids if bids is None else bids
        answer = shows(amounts, bids, table)
        self.assertEqual(answer, expected, table)
        self.assertIs(type(answer), type(expected))
        self.assertEqual(bound_again(amounts, bids, table), expected)

    def test_a_written_table(self):
        self.assert_shows(self.table, 8)

    def test_tables_that_others_wrote(self):
        self.assert_shows(((9, 14, 17), (9, 12, 12), (9, 9, 9)), 17)
        self.assert_shows(((0, 5, 99), (0, 3, 3), (0, 0, 0)), 99)
        self.assert_shows(((7, 8, 9), (1, 3, 4), (0, 0, 0)), 9)
        self.assert_shows(((TWENTY,) * 3, (3, 3, 3), (0, 0, 0)), TWENTY)
        self.assert_shows(((3 * TWENTY,) * 3, (TWENTY,) * 3, (0, 0, 0)), 3 * TWENTY)

    def test_a_number_less_or_more_anywhere(self):
        for layer in range(3):
            for at in range(3):
                for by in (-1, -2, -TWENTY):
                    lower = put(self.table, layer, put(self.table[layer], at, self.table[layer][at] + by))
                    self.assert_shows(lower, None)
                for by in (1, TWENTY):
                    other = put(self.table, layer, put(self.table[layer], at, self.table[layer][at] + by))
                    self.assert_shows(other, bound_again(self.amounts, self.bids, other))

    def test_the_last_tuple_below_0(self):
        self.assert_shows(((0,), (-1,)), None, (0,), ((),))
        self.assert_shows(((-1,), (-1,)), None, (0,), ((),))
        self.assert_shows(((0,), (0,)), 0, (0,), ((),))
        self.assert_shows(((5, 5), (4, -1)), None, (1,), ((),))

    def test_each_isnt_below_the_next_tuples(self):
        self.assert_shows(((3, 4), (3, 4)), 4, (1,), ((),))
        self.assert_shows(((2, 4), (3, 4)), None, (1,), ((),))
        self.assert_shows(((3, 3), (3, 4)), None, (1,), ((),))

    def test_each_bid_counts_and_those_beyond_the_amounts_do_not(self):
        bids = ((((1,), 5), ((0,), 2), ((2,), TWENTY)),)
        self.assert_shows(((2, 5), (0, 0)), 5, (1,), bids)
        self.assert_shows(((1, 5), (0, 0)), None, (1,), bids)
        self.assert_shows(((2, 4), (0, 0)), None, (1,), bids)
        # The bid for nothing leaves all that there is.
        self.assert_shows(((2, 5), (0, 3)), 5, (1,), bids)
        self.assert_shows(((2, 5), (0, 4)), None, (1,), bids)
        self.assert_shows(((2, 6), (0, 4)), 6, (1,), bids)

    def test_too_few_and_too_many(self):
        table = self.table
        for other in ((), table[:1], table[:2], table[1:], table + ((0, 0, 0),), ((9, 9, 9),) + table, table * 2):
            self.assert_shows(other, None)
        for layer in range(3):
            row = table[layer]
            for other in ((), row[:2], row[1:], row + (0,), (99,) + row, (99,) * 4):
                self.assert_shows(put(table, layer, other), None)

    def test_lists_and_things_in_the_place_of_tuples(self):
        table = self.table
        self.assert_shows(list(table), None)
        self.assert_shows([list(layer) for layer in table], None)
        for layer in range(3):
            for other in (list(table[layer]), None, 0, 99, True, "abc", "099", "", ((0,), (0,), (0,)), [99, 99, 99]):
                self.assert_shows(put(table, layer, other), None)

    def test_truths_and_things_in_the_place_of_numbers(self):
        amounts, bids = (1,), ((((1,), 1),),)
        self.assert_shows(((0, 1), (0, 0)), 1, amounts, bids)
        for table in (((0, True), (0, 0)), ((False, 1), (0, 0)), ((0, 1), (False, 0)), ((0, 1), (0, False)),
                      ((True, 1), (0, 0)), ((True, True), (False, False))):
            self.assert_shows(table, None, amounts, bids)
        for layer in range(3):
            for at in range(3):
                for other in (None, True, False, "9", "", (), (99,), [99], [], "99"):
                    self.assert_shows(put(self.table, layer, put(self.table[layer], at, other)), None)

    def test_any_things(self):
        for thing in (None, True, False, 0, 8, -8, TWENTY, "", "a" * 400, (), [], ((),), [[]], (None,) * 3,
                      ((), (), ()), ((None,) * 3,) * 3, [0] * 2999, (0,) * 2999, ((((((((),),),),),),),),
                      [[[[[[[[8]]]]]]]], (8, 3, 0), "085030000"):
            self.assert_shows(thing, None)

    def test_told_again(self):
        rng = random.Random(7)
        answers = []
        for amounts, bids in random_bids(8, 150, most_bids=6):
            table = best_table(amounts, bids)
            for turn in range(8):
                layer, at = rng.randrange(len(table)), rng.randrange(len(table[0]))
                by = rng.choice((-3, -1, 1, 2))
                other = put(table, layer, put(table[layer], at, table[layer][at] + by))
                expected = bound_again(amounts, bids, other)
                self.assert_shows(other, expected, amounts, bids)
                answers.append(expected)
            raised = tuple([tuple([part + 4 for part in layer]) for layer in table])
            self.assert_shows(raised, most_again(amounts, bids) + 4, amounts, bids)
        self.assertGreater(answers.count(None), 300)
        self.assertGreater(len(answers) - answers.count(None), 100)

    def test_the_table_of_other_bids(self):
        table = self.table
        self.assert_shows(table, None, (2,), ((((1,), 5), ((2,), 6)), (((1,), 4),)))
        self.assert_shows(table, 8, (2,), ((((1,), 5),), (((1,), 3),)))
        self.assert_shows(table, None, (1,), self.bids)
        self.assert_shows(table, 8, (2, 0), ((), ()))
        self.assert_shows(table, None, (2, 1), ((), ()))
        self.assert_shows(table, None, (2,), self.bids + ((),))


if __name__ == "__main__":
    unittest.main()
