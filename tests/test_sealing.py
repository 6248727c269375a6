"""Points 13, 14, 15 and 16: sealed bids, the bids that come of them, and how a sale is settled."""

import random
import unittest

from bundleclocks.core import blocks
from bundleclocks.dealing import best, brings
from bundleclocks.errors import NoWorths
from bundleclocks.houses import House
from bundleclocks.limits import SEALED
from bundleclocks.lowering import lowered
from bundleclocks.sales import Sale
from model import NO_NAMES, random_house, random_values, refusal, seen, wanted
from sums import TWENTY, bounds_again, bundles_again, first_best_again, lowered_again, price_of, ring_faults
from test_clock import HOUSE, NO_BUNDLES, ONE, SIX, rung

# Three kinds with bundles enough for nine sealed ones; ann tells nothing at the clock, bob something.
WIDE = House((("wood", 4, 1, 1, 1), ("coal", 4, 1, 1, 1)), (("ann", 8), ("bob", 8)))


def sealing(house=HOUSE, *rounds, most=6):
    """A sale at the phase "sealed" behind these rounds."""
    sale = Sale(house, rounds=most)
    rung(sale, *rounds)
    assert sale.phase() == "sealed"
    return sale


def wide():
    return sealing(WIDE, ((0, 0), (1, 1)))


class Seal(unittest.TestCase):
    def test_sealed_and_told_in_the_book(self):
        sale = sealing(HOUSE, ((1, 0), (1, 1)))
        self.assertIsNone(sale.seal("ann", (1, 0), money=9))
        self.assertEqual(sale.history("ann"), ((((5, 3), (1, 0)),), (((1, 0), 9),)))
        self.assertEqual(sale.line(), ("seal", "ann", (1, 0), 9))
        self.assertEqual(sale.phase(), "sealed")
        self.assertEqual(sale.history("bob")[1], ())

    def test_by_names_and_for_0_where_no_money_is_handed_in(self):
        sale = sealing(ONE, ((0,),))
        sale.seal(money=0, bundle=(1,), name="ann")
        self.assertEqual(sale.line(), ("seal", "ann", (1,), 0))
        sale = sealing(ONE, ((0,),))
        sale.seal("ann", (1,))
        self.assertEqual(sale.history("ann")[1], (((1,), 0),))
        self.assertRaises(TypeError, sale.seal, "ann", (1,), 5)

    def test_sealed_again_in_its_place(self):
        sale = wide()
        sale.seal("ann", (1, 0), money=1)
        sale.seal("ann", (0, 2), money=2)
        sale.seal("ann", (0, 1), money=0)
        for at, money in enumerate((1, 2)):
            self.assertEqual(refusal(lambda: sale.seal("ann", (0, 2), money=money)), ("NoMoney", (3,)))
        sale = sealing(HOUSE, ((1, 0), (1, 1)))
        sale.seal("ann", (1, 0), money=5)
        sale.seal("ann", (2, 0), money=9)
        sale.seal("ann", (1, 0), money=8)
        sale.seal("ann", (2, 0), money=10)
        self.assertEqual(sale.history("ann")[1], (((1, 0), 8), ((2, 0), 10)))
        self.assertEqual([line[2:] for line in sale.book()[-4:]],
                         [((1, 0), 5), ((2, 0), 9), ((1, 0), 8), ((2, 0), 10)])

    def test_no_phase(self):
        sale = Sale(HOUSE)
        self.assertEqual(refusal(lambda: sale.seal("ann", (1, 0), money=9)), ("NoPhase", ("clock",)))
        sale = sealing(HOUSE, ((1, 0), (1, 1)))
        sale.settle()
        self.assertEqual(refusal(lambda: sale.seal("ann", (1, 0), money=9)), ("NoPhase", ("done",)))

    def test_no_bidder(self):
        sale = wide()
        before = seen(sale)
        for name in NO_NAMES:
            self.assertEqual(refusal(lambda: sale.seal(name, (1, 0), money=1)), ("NoBidder", (name,)))
            self.assertEqual(refusal(lambda: sale.bounds_for(name, (1, 0))), ("NoBidder", (name,)))
        self.assertEqual(seen(sale), before)

    def test_no_bundle_and_not_nothing(self):
        sale = sealing(HOUSE, ((1, 0), (1, 1)))
        before = seen(sale)
        for thing in NO_BUNDLES + ((0, 0),):
            with self.subTest(thing=repr(thing)[:40]):
                told = refusal(lambda: sale.seal("ann", thing, money=9))
                self.assertEqual(repr(told), repr(("NoBundle", (thing,))))
        self.assertEqual(seen(sale), before)

    def test_no_points_by_those_at_first(self):
        sale = sealing(HOUSE, ((2, 1), (1, 1)), ((0, 0), (0, 1)))
        self.assertEqual((sale.points("ann"), sale.points("bob")), (0, 2))
        self.assertEqual(refusal(lambda: sale.seal("bob", (2, 1), money=9)), ("NoPoints", (3, 4)))
        # Just as many as at first are enough, though the last bundle had fewer.
        sale.seal("bob", (0, 1), money=9)
        self.assertIsNone(refusal(lambda: sale.seal("bob", (1, 1), money=16)))
        self.assertIsNone(refusal(lambda: sale.seal("ann", (2, 1), money=13)))

    def test_no_last(self):
        sale = sealing(HOUSE, ((1, 0), (1, 1)))
        before = seen(sale)
        for bundle in ((2, 0), (0, 1), (2, 1), (1, 1)):
            self.assertEqual(refusal(lambda: sale.seal("ann", bundle, money=6)), ("NoLast", ((1, 0),)))
        self.assertEqual(seen(sale), before)
        sale.seal("ann", (1, 0), money=5)
        sale.seal("ann", (2, 0), money=6)
        # Bob's are their own.
        self.assertEqual(refusal(lambda: sale.seal("bob", (1, 0), money=5)), ("NoLast", ((1, 1),)))

    def test_the_last_one_told_not_an_earlier_one(self):
        sale = sealing(HOUSE, ((2, 1), (1, 1)), ((1, 0), (1, 1)))
        self.assertEqual(refusal(lambda: sale.seal("ann", (2, 1), money=20)), ("NoLast", ((1, 0),)))
        sale.seal("ann", (1, 0), money=8)
        sale.seal("ann", (2, 1), money=18)

    def test_whose_last_is_nothing_seals_whatever(self):
        sale = sealing(HOUSE, ((0, 0), (1, 1)))
        sale.seal("ann", (0, 1), money=2)
        sale.seal("ann", (2, 1), money=13)

    def test_the_eighth_and_the_ninth_bundle(self):
        sale = wide()
        bundles = [bundle for bundle in bundles_again((4, 4)) if sum(bundle) > 0]
        for bundle in bundles[:8]:
            sale.seal("ann", bundle, money=1)
        self.assertEqual(len(sale.history("ann")[1]), 8)
        before = seen(sale)
        for bundle in bundles[8:]:
            self.assertEqual(refusal(lambda: sale.seal("ann", bundle, money=1)), ("TooMany", (8,)))
        self.assertEqual(seen(sale), before)
        # Those that are sealed may be sealed again, and others' don't count.
        self.assertIsNone(refusal(lambda: sale.seal("ann", bundles[3], money=2)))
        self.assertIsNone(refusal(lambda: sale.seal("bob", (1, 1), money=3)))
        self.assertEqual(SEALED, 8)

    def test_no_money(self):
        sale = wide()
        for money in (-1, -2, -TWENTY):
            self.assertEqual(refusal(lambda: sale.seal("ann", (1, 1), money=money)), ("NoMoney", (0,)))
        sale.seal("ann", (1, 1), money=0)
        for money in (0, -1, -TWENTY):
            self.assertEqual(refusal(lambda: sale.seal("ann", (1, 1), money=money)), ("NoMoney", (1,)))
        sale.seal("ann", (1, 1), money=1)
        before = seen(sale)
        for money in (1, 0, -1):
            self.assertEqual(refusal(lambda: sale.seal("ann", (1, 1), money=money)), ("NoMoney", (2,)))
        self.assertEqual(seen(sale), before)
        sale.seal("ann", (1, 1), money=2)
        self.assertEqual(refusal(lambda: sale.seal("ann", (2, 1), money=-1)), ("NoMoney", (0,)))

    def test_twenty_figures(self):
        sale = sealing(ONE, ((1,),))
        sale.seal("ann", (1,), money=TWENTY)
        self.assertEqual(sale.bids("ann"), (((1,), TWENTY),))
        self.assertEqual(refusal(lambda: sale.seal("ann", (1,), money=TWENTY)), ("NoMoney", (TWENTY + 1,)))

    def test_no_worths_and_how_the_ring_counts_them(self):
        sale = sealing(HOUSE, ((1, 0), (1, 1)))
        rounds = (((5, 3), (1, 0)),)
        self.assert_barred(sale, "ann", (1, 0), 4, rounds, (((1, 0), 4),))
        sale.seal("ann", (1, 0), money=6)
        # By the prices two wood cost 5 more than one.
        self.assert_barred(sale, "ann", (2, 0), 12, rounds, (((1, 0), 6), ((2, 0), 12)))
        sale.seal("ann", (2, 0), money=10)
        # In the place of the one ahead for the same bundle.
        self.assert_barred(sale, "ann", (2, 0), 12, rounds, (((1, 0), 6), ((2, 0), 12)))
        sale.seal("ann", (1, 0), money=7)
        sale.seal("ann", (2, 0), money=12)
        self.assert_barred(sale, "ann", (0, 1), 6, rounds, (((1, 0), 7), ((2, 0), 12), ((0, 1), 6)))
        sale.seal("ann", (0, 1), money=5)

    def assert_barred(self, sale, name, bundle, money, rounds, sealed):
        before = seen(sale)
        with self.assertRaises(NoWorths) as refused:
            sale.seal(name, bundle, money=money)
        self.assertEqual(ring_faults(refused.exception.ring, rounds, sealed, 2), [])
        self.assertEqual(seen(sale), before)

    def test_two_due_at_once(self):
        sale = Sale(HOUSE)
        self.assertEqual(refusal(lambda: sale.seal("zed", None, money=-1)), ("NoPhase", ("clock",)))
        sale = sealing(HOUSE, ((1, 0), (1, 1)))
        self.assertEqual(refusal(lambda: sale.seal("zed", None, money=-1)), ("NoBidder", ("zed",)))
        self.assertEqual(refusal(lambda: sale.seal("bob", (2, 2), money=-1)), ("NoBundle", ((2, 2),)))
        self.assertEqual(refusal(lambda: sale.seal("bob", (0, 0), money=-1)), ("NoBundle", ((0, 0),)))
        self.assertEqual(refusal(lambda: sale.seal("bob", (2, 1), money=-1)), ("NoPoints", (3, 4)))
        self.assertEqual(refusal(lambda: sale.seal("bob", (1, 0), money=-1)), ("NoLast", ((1, 1),)))
        self.assertEqual(refusal(lambda: sale.seal("bob", (1, 1), money=-1)), ("NoMoney", (0,)))
        sale = wide()
        for at, bundle in enumerate(bundles_again((4, 4))[1:9]):
            sale.seal("ann", bundle, money=1)
        self.assertEqual(refusal(lambda: sale.seal("ann", (4, 4), money=-1)), ("TooMany", (8,)))
        self.assertEqual(refusal(lambda: sale.seal("ann", (4, 4), money=TWENTY)), ("TooMany", (8,)))
        self.assertEqual(refusal(lambda: sale.seal("ann", (0, 1), money=1)), ("NoMoney", (2,)))


class Bounds(unittest.TestCase):
    def test_the_least_and_the_greatest_may_be_sealed_and_none_beyond(self):
        tried = 0
        for house, rounds in ((HOUSE, (((2, 1), (1, 1)), ((1, 0), (1, 1)))), (WIDE, (((3, 4), (4, 2)), ((2, 1), (2, 2)))),
                              (HOUSE, (((2, 1), (1, 1)), ((0, 0), (1, 1))))):
            first = sealing(house, *rounds)
            for name, points in house.bidders():
                for bundle in bundles_again(house.amounts())[1:]:
                    last = first.told(name)
                    if price_of(house.points(), bundle) <= points and (bundle == last or not any(last)):
                        self.assert_edges(house, rounds, name, bundle)
                        tried += 1
        self.assertGreater(tried, 8)

    def assert_edges(self, house, rounds, name, bundle):
        def seals(money):
            sale = sealing(house, *rounds)
            told = refusal(lambda: sale.seal(name, bundle, money=money))
            return None if told is None else told[0]

        least, greatest = sealing(house, *rounds).bounds_for(name, bundle)
        upper = least + 50 if greatest is None else greatest
        for money in range(least, upper + 1):
            self.assertIsNone(seals(money))
        if greatest is not None:
            self.assertEqual([seals(money) for money in (greatest + 1, greatest + 9)], ["NoWorths"] * 2)
        if least > 0:
            self.assertEqual([seals(money) for money in (least - 1, 0)], ["NoWorths"] * 2)

    def test_by_the_history_at_each_phase(self):
        sale = Sale(HOUSE)
        self.assertEqual(sale.bounds_for("ann", (1, 0)), (0, None))
        sale.tell("ann", (2, 1))
        # The round has not ended.
        self.assertEqual(sale.bounds_for("ann", (2, 1)), (0, None))
        sale.tell("bob", (1, 1))
        sale.bell()
        self.assertEqual(sale.bounds_for("ann", (2, 1)), (13, None))
        self.assertEqual(sale.bounds_for(bundle=(0, 0), name="ann"), (0, 0))
        rung(sale, ((0, 0), (1, 1)))
        self.assertEqual(sale.bounds_for("ann", (2, 1)), (13, 18))
        sale.seal("ann", (2, 1), money=15)
        self.assertEqual(sale.bounds_for("ann", (2, 1)), (15, 15))
        self.assertEqual(sale.bounds_for("ann", (1, 1)), bounds_again((1, 1), *sale.history("ann")))
        sale.settle()
        self.assertEqual(sale.bounds_for("ann", (2, 1)), (15, 15))

    def test_no_bundle_and_two_due_at_once(self):
        sale = sealing(HOUSE, ((1, 0), (1, 1)))
        for thing in NO_BUNDLES:
            told = refusal(lambda: sale.bounds_for("ann", thing))
            self.assertEqual(repr(told), repr(("NoBundle", (thing,))))
        self.assertEqual(refusal(lambda: sale.bounds_for("zed", None)), ("NoBidder", ("zed",)))
        # Points let no bundle be sealed, but each may be asked of.
        self.assertIsNone(refusal(lambda: sale.bounds_for("bob", (2, 1))))


class Bids(unittest.TestCase):
    def test_none(self):
        self.assertEqual(Sale(HOUSE).bids("ann"), ())
        self.assertEqual(sealing(HOUSE, ((0, 0), (0, 0))).bids("ann"), ())

    def test_told_ones_by_the_greatest_of_their_costs(self):
        sale = Sale(HOUSE)
        sale.tell("ann", (2, 1))
        self.assertEqual(sale.bids("ann"), ())
        sale.tell("bob", (1, 1))
        sale.bell()
        self.assertEqual(sale.bids("ann"), (((2, 1), 13),))
        rung(sale, ((2, 1), (1, 1)))
        self.assertEqual(sale.bids("ann"), (((2, 1), 18),))
        rung(sale, ((2, 0), (1, 1)))
        self.assertEqual(sale.bids("ann"), (((2, 1), 18), ((2, 0), 18)))
        rung(sale, ((0, 0), (1, 1)))
        self.assertEqual(sale.bids(name="ann"), (((2, 1), 18), ((2, 0), 18)))
        # Not by the prices of rounds in which another one was told.
        self.assertEqual(sale.prices(), (11, 5))
        self.assertEqual(sale.bids("bob"), (((1, 1), 16),))

    def test_only_what_stood_told_as_a_round_ended(self):
        sale = Sale(HOUSE)
        sale.tell("ann", (2, 1))
        sale.tell("ann", (1, 0))
        sale.tell("bob", (1, 0))
        sale.bell()
        self.assertEqual(sale.bids("ann"), (((1, 0), 5),))

    def test_for_0_at_prices_of_0(self):
        self.assertEqual(sealing(ONE, ((1,),)).bids("ann"), (((1,), 0),))

    def test_sealed_ones(self):
        sale = sealing(HOUSE, ((2, 1), (1, 1)), ((2, 0), (1, 1)), ((1, 0), (1, 1)))
        self.assertEqual(sale.bids("ann"), (((2, 1), 13), ((2, 0), 14), ((1, 0), 9)))
        sale.seal("ann", (1, 0), money=10)
        self.assertEqual(sale.bids("ann"), (((2, 1), 13), ((2, 0), 14), ((1, 0), 10)))
        sale.seal("ann", (1, 1), money=12)
        sale.seal("ann", (2, 0), money=17)
        sale.seal("ann", (0, 1), money=1)
        expected = (((2, 1), 13), ((2, 0), 17), ((1, 0), 10), ((1, 1), 12), ((0, 1), 1))
        self.assertEqual(sale.bids("ann"), expected)
        sale.seal("ann", (1, 1), money=13)
        self.assertEqual(sale.bids("ann")[3], ((1, 1), 13))
        self.assertIs(type(sale.bids("ann")), tuple)

    def test_of_twelve_rounds_and_eight_sealed(self):
        # In each round a piece less of one kind, while the others keep the clock on.
        house = House((("wood", 4, 1, 1, 0), ("coal", 4, 1, 1, 0), ("salt", 4, 1, 1, 0)),
                      (("ann", 0), ("bob", 0), ("cid", 0)))
        sale = Sale(house, rounds=12)
        down = [(4 - at // 3, 4 - (at + 1) // 3, 4 - (at + 2) // 3) for at in range(12)]
        for bundle in down:
            sale.tell_by(lambda name, prices: bundle if name == "ann" else (4, 4, 4))
            word = sale.bell()
        self.assertEqual(word, "late")
        self.assertEqual([bid[0] for bid in sale.bids("ann")], down)
        money = price_of((12, 12, 12), down[-1])
        sale.seal("ann", down[-1], money=money)
        others = [bundle for bundle in bundles_again((2, 2, 2)) if any(bundle) and bundle not in down][:7]
        for bundle in others:
            sale.seal("ann", bundle, money=0)
        self.assertEqual([bid[0] for bid in sale.bids("ann")], down + others)
        self.assertEqual((len(sale.history("ann")[1]), sale.bids("ann")[11]), (8, (down[-1], money)))
        sale.settle()
        bids = tuple([sale.bids(name) for name in ("ann", "bob", "cid")])
        self.assertEqual(sale.choice(), first_best_again((4, 4, 4), bids))


class Settle(unittest.TestCase):
    def assert_settled(self, sale):
        amounts = sale.house().amounts()
        bids = tuple([sale.bids(name) for name, points in sale.house().bidders()])
        choice = first_best_again(amounts, bids)
        told = (sale.choice(), sale.payments(), sale.lowering())
        self.assertEqual(repr(told), repr((choice,) + lowered_again(amounts, bids, choice)))
        self.assertEqual(told, (best(amounts, bids),) + lowered(amounts, bids))
        self.assertEqual(sale.line(), ("settle", sale.choice(), sale.payments()))
        self.assertEqual(sale.phase(), "done")

    def test_by_hand(self):
        sale = sealing(HOUSE, ((2, 1), (1, 1)), ((2, 0), (1, 1)), ((1, 0), (1, 1)))
        sale.seal("ann", (1, 0), money=12)
        self.assertIsNone(sale.settle())
        self.assertEqual((sale.choice(), sale.payments()), ((2, 0), ((0, 1), (2, 1))))
        self.assert_settled(sale)
        self.assertEqual((sale.turn(), sale.prices()), (3, (9, 4)))

    def test_without_any_bids(self):
        sale = sealing(SIX, ((0, 0, 0),) * 6)
        sale.settle()
        self.assertEqual((sale.choice(), sale.payments(), sale.lowering()), ((None,) * 6, ((0, 1),) * 6, ()))
        self.assert_settled(sale)

    def test_of_one_bidder(self):
        sale = sealing(ONE, ((1,),))
        sale.seal("ann", (1,), money=TWENTY)
        sale.settle()
        self.assertEqual((sale.choice(), sale.payments()), ((0,), ((0, 1),)))
        self.assert_settled(sale)

    def test_behind_a_late_clock(self):
        sale = sealing(HOUSE, ((2, 1), (1, 1)), most=1)
        sale.settle()
        self.assertEqual((sale.choice(), sale.payments()), ((0, None), ((8, 1), (0, 1))))
        self.assert_settled(sale)

    def test_no_phase(self):
        sale = Sale(HOUSE)
        for ask in (sale.settle, sale.choice, sale.payments, sale.lowering):
            self.assertEqual(refusal(ask), ("NoPhase", ("clock",)))
        rung(sale, ((1, 0), (1, 1)))
        before = seen(sale)
        for ask in (sale.choice, sale.payments, sale.lowering):
            self.assertEqual(refusal(ask), ("NoPhase", ("sealed",)))
        self.assertEqual(seen(sale), before)
        sale.settle()
        before = seen(sale)
        self.assertEqual(refusal(sale.settle), ("NoPhase", ("done",)))
        self.assertEqual(seen(sale), before)

    def test_random_ones(self):
        for seed in range(60):
            sale = settled_by_values(seed)
            self.assert_settled(sale)


def settled_by_values(seed):
    """A settled sale of bidders who tell and seal by worths of their own."""
    rng = random.Random(seed)
    house = random_house(rng)
    values = random_values(rng, house)
    sale = Sale(house, rounds=rng.choice((1, 4, 12)))
    while sale.phase() == "clock":
        for name, points in house.bidders():
            bundle = wanted(values[name], sale.prices(), sale.points(name), house.points())
            # Points may bar what the worths would ask for, and another one have no worths then.
            if refusal(lambda: sale.tell(name, bundle)) is not None:
                sale.tell(name, (0,) * len(house.amounts()))
        sale.bell()
    for name, points in house.bidders():
        for bundle in [sale.told(name)] + rng.choices(bundles_again(house.amounts()), k=3):
            least, greatest = sale.bounds_for(name, bundle)
            upper = least + 9 if greatest is None else greatest
            if rng.random() < 0.7:
                refusal(lambda: sale.seal(name, bundle, money=rng.randint(least, upper)))
    sale.settle()
    return sale


class Cleared(unittest.TestCase):
    """Point 16."""

    def assert_core(self, sale):
        amounts = sale.house().amounts()
        names = [name for name, points in sale.house().bidders()]
        bids = tuple([sale.bids(name) for name in names])
        lasts = [sale.told(name) for name in names]
        choice = tuple([[bid[0] for bid in row].index(last) if any(last) else None for row, last in zip(bids, lasts)])
        self.assertEqual(brings(amounts, bids, choice), brings(amounts, bids, best(amounts, bids)))
        payments = tuple([(price_of(sale.prices(), last), 1) for last in lasts])
        self.assertIsNone(blocks(amounts, bids, choice, payments))

    def test_the_last_bundles_and_prices(self):
        seen_ones = sealed = 0
        for seed in range(400):
            sale = settled_by_values(seed)
            cleared = ("bell", "cleared") in sale.book()
            lasts = [sale.told(name) for name, points in sale.house().bidders()]
            if cleared and tuple([sum(many) for many in zip(*lasts)]) == sale.house().amounts():
                self.assert_core(sale)
                seen_ones += 1
                sealed += "seal" in [line[0] for line in sale.book()]
        self.assertGreater(seen_ones, 25)
        self.assertGreater(sealed, 15)

    def test_by_hand(self):
        sale = sealing(HOUSE, ((2, 1), (1, 1)), ((1, 0), (1, 1)))
        sale.seal("ann", (1, 0), money=30)
        sale.seal("ann", (2, 1), money=41)
        sale.seal("bob", (1, 1), money=11)
        sale.settle()
        self.assert_core(sale)


if __name__ == "__main__":
    unittest.main()
