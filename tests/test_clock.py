"""Points 10, 11, 12 and 18: the clock of a sale, what is told in its rounds, its bell, and the book's lines."""

import unittest

from bundleclocks.errors import NoWorths
from bundleclocks.houses import House
from bundleclocks.limits import ROUNDS
from bundleclocks.sales import Sale
from model import NO_NAMES, refusal, seen
from sums import TWENTY, ring_faults

WOOD = ("wood", 2, 5, 2, 1)
COAL = ("coal", 1, 3, 1, 2)
ANN = ("ann", 4)
BOB = ("bob", 3)
HOUSE = House((WOOD, COAL), (ANN, BOB))
ONE = House((("wood", 1, 0, 1, 0),), (("ann", 0),))
SIX = House(
    (("wood", 4, 10, 1, 1), ("coal", 3, 20, 5, 1), ("salt", 2, 0, 99, 9)),
    (("a", 99), ("b", 99), ("c", 99), ("d", 0), ("e", 9), ("f", 18)),
)
# No bundles within two wood and one coal.
NO_BUNDLES = (
    None, True, False, 0, 1, -1, TWENTY, "", "11", "1 1", (), (1,), (1, 1, 1), (0, 0, 0), [1, 1], [], [(1, 1)],
    ((1, 1),), (True, 1), (1, True), (False, False), (0, False), ("1", "1"), (None, None), (1, None), (1, (1,)),
    (1, [1]), (-1, 0), (0, -1), (3, 0), (0, 2), (3, 2), (TWENTY, 0), (0, -TWENTY), (0,) * 2999, [[[[[[[[0]]]]]]]],
)


def told_all(sale, bundles):
    """Each bidder tells in order; the sale itself."""
    for (name, points), bundle in zip(sale.house().bidders(), bundles):
        sale.tell(name, bundle)
    return sale


def rung(sale, *rounds):
    """Rounds of bundles told by each, with the bell behind each; what the last bell told."""
    word = None
    for bundles in rounds:
        word = told_all(sale, bundles).bell()
    return word


class Begun(unittest.TestCase):
    def test_as_it_begins(self):
        for house in (HOUSE, ONE, SIX):
            sale = Sale(house)
            self.assertIs(sale.house(), house)
            self.assertEqual((sale.phase(), sale.turn(), sale.prices()), ("clock", 1, house.prices()))
            self.assertEqual((sale.book(), sale.log(), len(sale), sale.is_busy()), ((), [], 0, False))
            for name, points in house.bidders():
                self.assertEqual((sale.points(name), sale.told(name)), (points, None))
                self.assertEqual((sale.history(name), sale.bids(name)), (((), ()), ()))
            self.assertIs(type(sale.prices()), tuple)
            self.assertIs(sale.is_busy(), False)

    def test_how_many_rounds(self):
        self.assertEqual(Sale(HOUSE), Sale(HOUSE, rounds=6))
        self.assertEqual(ROUNDS, 6)
        self.assertEqual(Sale(house=HOUSE), Sale(HOUSE))
        self.assertRaises(TypeError, Sale, HOUSE, 6)
        self.assertRaises(TypeError, Sale)

    def test_its_truth_is_that_of_its_len(self):
        sale = Sale(HOUSE)
        self.assertFalse(sale)
        sale.tell("ann", (0, 0))
        self.assertTrue(sale)
        self.assertEqual(len(sale), 1)


class Tell(unittest.TestCase):
    def test_told_and_told_again_in_the_same_round(self):
        sale = Sale(HOUSE)
        self.assertIsNone(sale.tell("ann", (2, 1)))
        self.assertEqual((sale.told("ann"), sale.told("bob")), ((2, 1), None))
        self.assertIsNone(sale.tell("ann", (0, 1)))
        self.assertEqual(sale.told("ann"), (0, 1))
        sale.tell("bob", (1, 0))
        sale.tell("ann", (0, 1))
        lines = (("tell", "ann", (2, 1)), ("tell", "ann", (0, 1)), ("tell", "bob", (1, 0)), ("tell", "ann", (0, 1)))
        self.assertEqual(sale.book(), lines)
        self.assertEqual(sale.bell(), "cleared")
        self.assertEqual(sale.history("ann"), ((((5, 3), (0, 1)),), ()))

    def test_all_bundles_within_the_amounts(self):
        house = House((WOOD, COAL), (("ann", 99),))
        for wood in range(3):
            for coal in range(2):
                sale = Sale(house)
                sale.tell("ann", (wood, coal))
                self.assertEqual(sale.told("ann"), (wood, coal))

    def test_by_names(self):
        sale = Sale(HOUSE)
        sale.tell(bundle=(1, 0), name="bob")
        self.assertEqual((sale.told(name="bob"), sale.points(name="bob")), ((1, 0), 3))

    def test_no_phase(self):
        sale = Sale(HOUSE)
        rung(sale, ((1, 0), (1, 0)))
        self.assertEqual(refusal(lambda: sale.tell("ann", (1, 0))), ("NoPhase", ("sealed",)))
        self.assertEqual(refusal(sale.bell), ("NoPhase", ("sealed",)))
        sale.settle()
        self.assertEqual(refusal(lambda: sale.tell("ann", (1, 0))), ("NoPhase", ("done",)))
        self.assertEqual(refusal(sale.bell), ("NoPhase", ("done",)))

    def test_no_bidder(self):
        sale = Sale(HOUSE)
        before = seen(sale)
        for name in NO_NAMES:
            if name != "ann":
                self.assertEqual(refusal(lambda: sale.tell(name, (1, 0))), ("NoBidder", (name,)))
                self.assertEqual(refusal(lambda: sale.points(name)), ("NoBidder", (name,)))
                self.assertEqual(refusal(lambda: sale.told(name)), ("NoBidder", (name,)))
                self.assertEqual(refusal(lambda: sale.history(name)), ("NoBidder", (name,)))
                self.assertEqual(refusal(lambda: sale.bids(name)), ("NoBidder", (name,)))
        self.assertEqual(seen(sale), before)

    def test_no_bundle(self):
        sale = Sale(HOUSE)
        sale.tell("ann", (1, 0))
        before = seen(sale)
        for thing in NO_BUNDLES:
            with self.subTest(thing=repr(thing)[:40]):
                told = refusal(lambda: sale.tell("ann", thing))
                self.assertEqual(repr(told), repr(("NoBundle", (thing,))))
                self.assertEqual(seen(sale), before)

    def test_no_points_at_first(self):
        sale = Sale(HOUSE)
        self.assertEqual((sale.points("ann"), sale.points("bob")), (4, 3))
        sale.tell("ann", (2, 1))
        self.assertEqual(refusal(lambda: sale.tell("bob", (2, 1))), ("NoPoints", (3, 4)))
        sale.tell("bob", (1, 1))
        # What is told changes no points till the round ends.
        self.assertEqual((sale.points("ann"), sale.points("bob")), (4, 3))
        sale.tell("ann", (0, 0))
        sale.tell("ann", (2, 1))
        self.assertEqual(sale.points("ann"), 4)

    def test_no_points_behind_each_rounds_end(self):
        sale = Sale(HOUSE)
        rung(sale, ((2, 1), (1, 1)))
        self.assertEqual((sale.points("ann"), sale.points("bob")), (4, 3))
        sale.tell("ann", (0, 1))
        sale.tell("bob", (1, 1))
        self.assertEqual(sale.points("ann"), 4)
        sale.bell()
        self.assertEqual((sale.points("ann"), sale.points("bob")), (2, 3))
        for bundle, want in (((1, 1), 3), ((2, 1), 4)):
            self.assertEqual(refusal(lambda: sale.tell("ann", bundle)), ("NoPoints", (2, want)))
        sale.tell("ann", (2, 0))
        sale.tell("ann", (0, 0))
        sale.tell("bob", (0, 1))
        self.assertEqual(sale.bell(), "cleared")
        # Behind the clock they are those of the last round's bundle.
        self.assertEqual((sale.points("ann"), sale.points("bob")), (0, 2))

    def test_points_of_0(self):
        house = House((("wood", 1, 0, 1, 0), ("coal", 1, 0, 1, 1)), (("ann", 0),))
        sale = Sale(house)
        self.assertEqual(refusal(lambda: sale.tell("ann", (1, 1))), ("NoPoints", (0, 1)))
        sale.tell("ann", (1, 0))
        self.assertEqual(sale.told("ann"), (1, 0))

    def test_no_worths(self):
        house = House((("wood", 3, 5, 2, 0),), (("ann", 0), ("bob", 0)))
        sale = Sale(house)
        rung(sale, ((1,), (3,)))
        before = seen(sale)
        # More at a higher price could not have been meant.
        for many in (2, 3):
            with self.assertRaises(NoWorths) as refused:
                sale.tell("ann", (many,))
            rounds = (((5,), (1,)), ((7,), (many,)))
            self.assertEqual(ring_faults(refused.exception.ring, rounds, (), 1), [])
            self.assertEqual(seen(sale), before)
        sale.tell("ann", (1,))
        sale.tell("ann", (0,))
        sale.tell("bob", (3,))
        sale.tell("bob", (1,))

    def test_nothing_is_never_refused_for_worths(self):
        sale = Sale(SIX, rounds=12)
        rung(sale, *[((4, 3, 2), (4, 0, 0), (0, 0, 1), (0, 0, 0), (1, 1, 0), (0, 0, 2))] * 5)
        for name, points in SIX.bidders():
            sale.tell(name, (0, 0, 0))
        self.assertEqual(sale.bell(), "cleared")

    def test_two_due_at_once(self):
        sale = Sale(HOUSE)
        self.assertEqual(refusal(lambda: sale.tell("zed", (9, 9))), ("NoBidder", ("zed",)))
        self.assertEqual(refusal(lambda: sale.tell("bob", (2, 2))), ("NoBundle", ((2, 2),)))
        sale = Sale(House((("wood", 3, 5, 2, 1),), (("ann", 9), ("bob", 9))))
        rung(sale, ((1,), (3,)))
        self.assertEqual(refusal(lambda: sale.tell("ann", (2,))), ("NoPoints", (1, 2)))
        rung(sale, ((0,), (1,)))
        for name, bundle in (("zed", None), ("ann", None), ("ann", (3,)), ("ann", (1,))):
            self.assertEqual(refusal(lambda: sale.tell(name, bundle)), ("NoPhase", ("sealed",)))

    def test_a_refused_list_is_not_kept(self):
        sale = Sale(HOUSE)
        thing = [1, 1]
        told = refusal(lambda: sale.tell("ann", thing))
        thing.append(5)
        self.assertEqual(told, ("NoBundle", ([1, 1],)))


class Bell(unittest.TestCase):
    def test_a_silent_bidder(self):
        sale = Sale(HOUSE)
        self.assertEqual(refusal(sale.bell), ("NotAll", (("ann", "bob"),)))
        sale.tell("bob", (0, 0))
        before = seen(sale)
        self.assertEqual(refusal(sale.bell), ("NotAll", (("ann",),)))
        self.assertEqual(seen(sale), before)
        sale.tell("ann", (2, 1))
        self.assertEqual(sale.bell(), "cleared")

    def test_silent_ones_in_order_and_in_a_later_round(self):
        sale = Sale(SIX)
        for name in "ebd":
            sale.tell(name, (0, 0, 0))
        self.assertEqual(refusal(sale.bell), ("NotAll", (("a", "c", "f"),)))
        for name in "fca":
            sale.tell(name, (4, 0, 0))
        self.assertEqual(sale.bell(), "on")
        self.assertEqual(refusal(sale.bell), ("NotAll", (tuple("abcdef"),)))

    def test_prices_go_up_where_more_is_told_than_there_is(self):
        sale = Sale(SIX)
        self.assertEqual(rung(sale, ((4, 3, 2), (1, 0, 0)) + ((0, 0, 0),) * 4), "on")
        self.assertEqual((sale.prices(), sale.turn()), ((11, 20, 0), 2))
        self.assertEqual(rung(sale, ((4, 3, 2), (1, 0, 0)) + ((0, 0, 0),) * 4), "on")
        self.assertEqual((sale.prices(), sale.turn()), ((12, 20, 0), 3))
        sale = Sale(SIX)
        some = ((4, 3, 1), (0, 0, 0), (1, 1, 1), (0, 0, 0), (0, 0, 1), (0, 0, 0))
        self.assertEqual(rung(sale, some), "on")
        self.assertEqual(sale.prices(), (11, 25, 99))
        self.assertEqual([sale.told(name) for name in "abcdef"], [None] * 6)
        self.assertEqual(sale.phase(), "clock")

    def test_just_all_pieces_is_cleared(self):
        sale = Sale(SIX)
        self.assertEqual(rung(sale, ((2, 1, 1), (2, 2, 0), (0, 0, 1)) + ((0, 0, 0),) * 3), "cleared")
        self.assertEqual((sale.prices(), sale.turn(), sale.phase()), ((10, 20, 0), 1, "sealed"))
        self.assertEqual(sale.told("b"), (2, 2, 0))

    def test_nothing_told_by_all_is_cleared(self):
        sale = Sale(ONE, rounds=1)
        self.assertEqual(rung(sale, ((0,),)), "cleared")

    def test_cleared_in_the_last_round_that_may_be(self):
        for rounds in (1, 2, 12):
            sale = Sale(HOUSE, rounds=rounds)
            for turn in range(rounds - 1):
                self.assertEqual(rung(sale, ((2, 1), (1, 1))), "on")
            self.assertEqual(rung(sale, ((1, 0), (1, 1))), "cleared")
            self.assertEqual((sale.turn(), sale.phase()), (rounds, "sealed"))
            self.assertEqual(sale.prices(), (5 + 2 * (rounds - 1), 3 + rounds - 1))

    def test_late_in_the_last_round_that_may_be(self):
        for rounds in (1, 2, 6, 12):
            sale = Sale(HOUSE, rounds=rounds)
            for turn in range(rounds - 1):
                self.assertEqual(rung(sale, ((2, 1), (1, 1))), "on")
                self.assertEqual((sale.turn(), sale.phase()), (turn + 2, "clock"))
            self.assertEqual(rung(sale, ((2, 1), (1, 1))), "late")
            self.assertEqual((sale.turn(), sale.phase()), (rounds, "sealed"))
            # The prices stay, and so does what was told.
            self.assertEqual(sale.prices(), (5 + 2 * (rounds - 1), 3 + rounds - 1))
            self.assertEqual((sale.told("ann"), sale.told("bob")), ((2, 1), (1, 1)))

    def test_six_rounds_where_no_number_is_handed_in(self):
        sale = Sale(HOUSE)
        words = [rung(sale, ((2, 1), (1, 1))) for turn in range(6)]
        self.assertEqual(words, ["on"] * 5 + ["late"])

    def test_the_history_of_ended_rounds(self):
        sale = Sale(HOUSE)
        rung(sale, ((2, 1), (1, 1)), ((2, 0), (1, 1)))
        rounds = (((5, 3), (2, 1)), ((7, 4), (2, 0)))
        self.assertEqual(sale.history("ann"), (rounds, ()))
        # A bundle of a round that lasts is none of them.
        sale.tell("ann", (0, 0))
        self.assertEqual(sale.history("ann"), (rounds, ()))
        self.assertEqual(sale.bids("ann"), (((2, 1), 13), ((2, 0), 14)))
        self.assertEqual(sale.history(name="bob"), ((((5, 3), (1, 1)), ((7, 4), (1, 1))), ()))


class Book(unittest.TestCase):
    def settled(self):
        sale = Sale(HOUSE)
        rung(sale, ((2, 1), (1, 1)), ((1, 0), (1, 1)))
        sale.seal("ann", (1, 0), money=9)
        sale.settle()
        return sale

    def test_a_line_for_each_deed(self):
        sale = self.settled()
        book = (
            ("tell", "ann", (2, 1)), ("tell", "bob", (1, 1)), ("bell", "on"), ("tell", "ann", (1, 0)),
            ("tell", "bob", (1, 1)), ("bell", "cleared"), ("seal", "ann", (1, 0), 9),
            ("settle", sale.choice(), sale.payments()),
        )
        self.assertEqual((sale.book(), len(sale)), (book, 8))
        self.assertEqual({type(line) for line in sale.book()}, {tuple})

    def test_a_late_bell(self):
        sale = Sale(HOUSE, rounds=1)
        rung(sale, ((2, 1), (1, 1)))
        self.assertEqual(sale.line(), ("bell", "late"))

    def test_lines_by_places_from_both_ends(self):
        sale = self.settled()
        book = sale.book()
        for at in range(8):
            self.assertEqual(sale.line(at), book[at])
            self.assertEqual(sale.line(at - 8), book[at])
        self.assertEqual(sale.line(), book[7])
        self.assertEqual(sale.line(at=-3), book[5])

    def test_lines_beyond(self):
        for at in (8, 9, -9, -10, TWENTY, -TWENTY):
            self.assertEqual(refusal(lambda: self.settled().line(at)), ("NoLine", (at, 8)))
        for at in (0, -1, 1, -2):
            self.assertEqual(refusal(lambda: Sale(HOUSE).line(at)), ("NoLine", (at, 0)))
        self.assertEqual(refusal(Sale(HOUSE).line), ("NoLine", (-1, 0)))

    def test_what_was_told_stays_as_it_was(self):
        sale = Sale(HOUSE)
        told = (sale.book(), sale.log(), sale.prices(), sale.history("ann"))
        kept = repr(told)
        rung(sale, ((2, 1), (1, 1)))
        sale.tell_by(lambda name, prices: (0, 0))
        self.assertEqual(repr(told), kept)
        sale.log().append("more")
        self.assertEqual(sale.log(), ["begin", "end"])


class Same(unittest.TestCase):
    def test_by_house_rounds_and_book(self):
        one, other = Sale(HOUSE), Sale(House((WOOD, COAL), (ANN, BOB)), rounds=6)
        self.assertTrue(one == other)
        self.assertFalse(one != other)
        one.tell("ann", (1, 0))
        self.assertFalse(one == other)
        other.tell("ann", (1, 0))
        self.assertTrue(one == other)
        self.assertFalse(Sale(HOUSE) == Sale(HOUSE, rounds=5))
        self.assertFalse(Sale(HOUSE) == Sale(House((WOOD, COAL), (BOB, ANN))))
        self.assertFalse(Sale(HOUSE) == Sale(ONE))

    def test_by_the_book_not_by_what_stands(self):
        one, other = Sale(HOUSE), Sale(HOUSE)
        one.tell("ann", (1, 0))
        one.tell("ann", (1, 0))
        other.tell("ann", (1, 0))
        self.assertFalse(one == other)
        # The log is no part of it.
        one, other = Sale(HOUSE), Sale(HOUSE)
        one.tell_by(lambda name, prices: (1, 0))
        told_all(other, ((1, 0), (1, 0)))
        self.assertTrue(one == other)
        self.assertNotEqual(one.log(), other.log())

    def test_unlike_each_thing_of_another_kind(self):
        sale = Sale(HOUSE)
        for thing in (None, True, False, 0, "", "clock", (), [], sale.book(), HOUSE, (sale,), [sale]):
            self.assertIs(sale == thing, False)
            self.assertIs(thing == sale, False)
            self.assertIs(sale != thing, True)
        self.assertIs(HOUSE == sale, False)

    def test_two_sales_share_nothing(self):
        one, other = Sale(HOUSE), Sale(HOUSE)
        before = seen(other)
        rung(one, ((2, 1), (1, 1)), ((0, 0), (1, 1)))
        one.seal("bob", (1, 1), money=20)
        one.settle()
        self.assertEqual(seen(other), before)


if __name__ == "__main__":
    unittest.main()
