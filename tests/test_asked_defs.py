"""Point 17: deeds by a def that tells for each bidder, is refused, or makes an error of its own."""

import unittest

from bundleclocks.errors import NoBundle, NoPoints, NoWorths
from bundleclocks.houses import House
from bundleclocks.sales import Sale
from model import refusal, seen
from sums import ring_faults
from test_clock import HOUSE, ONE, SIX, rung, told_all

LOGGED = ["begin", "end"]


class Own(Exception):
    pass


class Asked(unittest.TestCase):
    def test_each_in_the_houses_order_by_name_and_prices(self):
        asked = []

        def tells(name, prices):
            asked.append((name, prices))
            return (1, 0)

        sale = Sale(HOUSE)
        self.assertIsNone(sale.tell_by(tells))
        self.assertEqual(asked, [("ann", (5, 3)), ("bob", (5, 3))])
        self.assertIs(type(asked[0][1]), tuple)
        self.assertEqual(sale.book(), (("tell", "ann", (1, 0)), ("tell", "bob", (1, 0))))
        self.assertEqual((sale.told("ann"), sale.told("bob")), ((1, 0), (1, 0)))
        self.assertEqual((sale.log(), sale.is_busy()), (LOGGED, False))

    def test_a_lambda_of_other_names_and_by_name(self):
        sale = Sale(HOUSE)
        sale.tell_by(asked=lambda who, costs: (1, 0) if who == "ann" else (0, 1))
        self.assertEqual((sale.told("ann"), sale.told("bob")), ((1, 0), (0, 1)))

    def test_of_one_and_of_six(self):
        sale = Sale(ONE)
        sale.tell_by(lambda name, prices: (1,))
        self.assertEqual(sale.bell(), "cleared")
        sale = Sale(SIX)
        sale.tell_by(lambda name, prices: (0, 0, 0))
        self.assertEqual([line[1] for line in sale.book()], list("abcdef"))

    def test_in_the_place_of_what_was_told_before(self):
        sale = told_all(Sale(HOUSE), ((2, 1), (1, 1)))
        sale.tell_by(lambda name, prices: (0, 0))
        self.assertEqual((sale.told("ann"), sale.told("bob"), len(sale)), ((0, 0), (0, 0), 4))

    def test_at_the_prices_of_a_later_round(self):
        sale = Sale(HOUSE)
        rung(sale, ((2, 1), (1, 1)))
        seen_prices = []
        sale.tell_by(lambda name, prices: seen_prices.append(prices) or (1, 0))
        self.assertEqual(seen_prices, [(7, 4), (7, 4)])
        self.assertEqual(sale.bell(), "cleared")

    def test_the_log_of_several(self):
        sale = Sale(HOUSE)
        sale.tell_by(lambda name, prices: (0, 0))
        refusal(lambda: sale.tell_by(lambda name, prices: None))
        sale.tell_by(lambda name, prices: (0, 0))
        self.assertEqual(sale.log(), LOGGED * 3)


class InTheMiddle(unittest.TestCase):
    def test_the_sale_is_asked(self):
        sale = Sale(HOUSE)
        sale.tell("bob", (0, 1))
        answers = []

        def tells(name, prices):
            answers.append((
                sale.is_busy(), sale.log(), len(sale), sale.book(), sale.told("ann"), sale.told("bob"), sale.phase(),
                sale.points("ann"), sale.history("ann"), sale.bids("ann"), sale.bounds_for("ann", (1, 0)), sale.line(),
            ))
            return (1, 0)

        sale.tell_by(tells)
        first, second = ("tell", "bob", (0, 1)), ("tell", "ann", (1, 0))
        same = ("clock", 4, ((), ()), (), (0, None))
        self.assertEqual(answers[0], (True, ["begin"], 1, (first,), None, (0, 1)) + same + (first,))
        self.assertEqual(answers[1], (True, ["begin"], 2, (first, second), (1, 0), (0, 1)) + same + (second,))
        self.assertIs(answers[0][0], True)
        self.assertEqual((sale.is_busy(), sale.log(), len(sale)), (False, LOGGED, 3))

    def test_another_sale_is_not_busy(self):
        sale, other = Sale(HOUSE), Sale(HOUSE)
        answers = []
        sale.tell_by(lambda name, prices: answers.append((sale.is_busy(), other.is_busy())) or (0, 0))
        self.assertEqual(answers, [(True, False)] * 2)
        self.assertEqual(other.log(), [])


class NothingWasTold(unittest.TestCase):
    def assert_nothing(self, sale, tells, error):
        """The error comes through, and but for the log all stands as before."""
        log, before = sale.log(), seen(sale)
        with self.assertRaises(error) as refused:
            sale.tell_by(tells)
        self.assertEqual(sale.log(), log + LOGGED)
        self.assertIs(sale.is_busy(), False)
        self.assertEqual(seen(sale).replace(repr(log + LOGGED), repr(log)), before)
        return refused.exception

    def sales(self):
        """Nobody having told, one, or both; and a second round."""
        later = Sale(HOUSE)
        rung(later, ((2, 1), (1, 1)))
        later.tell("bob", (1, 1))
        one = Sale(HOUSE)
        one.tell("ann", (0, 1))
        return [Sale(HOUSE), one, told_all(Sale(HOUSE), ((2, 1), (1, 1))), later]

    def test_refused_at_the_first(self):
        for sale in self.sales():
            error = self.assert_nothing(sale, lambda name, prices: None, NoBundle)
            self.assertIsNone(error.bundle)

    def test_refused_at_a_later_bidder(self):
        for sale in self.sales():
            told = {"ann": (1, 0), "bob": (2, 2)}
            error = self.assert_nothing(sale, lambda name, prices: told[name], NoBundle)
            self.assertEqual(error.bundle, (2, 2))
            told["bob"] = (2, 1)
            error = self.assert_nothing(sale, lambda name, prices: told[name], NoPoints)
            self.assertEqual((error.have, error.want), (3, 4))

    def test_refused_for_worths_at_the_last(self):
        house = House((("wood", 3, 5, 2, 0),), (("ann", 0), ("bob", 0)))
        sale = Sale(house)
        rung(sale, ((3,), (1,)))
        error = self.assert_nothing(sale, lambda name, prices: (2,), NoWorths)
        self.assertEqual(ring_faults(error.ring, (((5,), (1,)), ((7,), (2,))), (), 1), [])

    def test_an_error_of_its_own(self):
        for error in (Own, KeyError, ValueError, StopIteration, RuntimeError, NoBundle, KeyboardInterrupt):
            for at in ("ann", "bob"):
                for sale in self.sales():
                    def tells(name, prices):
                        if name == at:
                            raise error("own")
                        return (1, 0)

                    caught = self.assert_nothing(sale, tells, error)
                    self.assertIs(type(caught), error)

    def test_the_very_error_comes_through(self):
        made = Own("this one")

        def tells(name, prices):
            raise made

        sale = Sale(HOUSE)
        with self.assertRaises(Own) as caught:
            sale.tell_by(tells)
        self.assertIs(caught.exception, made)

    def test_a_def_of_other_arguments(self):
        self.assert_nothing(Sale(HOUSE), lambda name: (0, 0), TypeError)

    def test_what_was_asked_in_the_middle_stays_as_it_was(self):
        sale = Sale(HOUSE)
        books = []

        def tells(name, prices):
            books.append((sale.book(), sale.told("ann")))
            return (1, 0) if name == "ann" else None

        self.assert_nothing(sale, tells, NoBundle)
        self.assertEqual(books, [((), None), ((("tell", "ann", (1, 0)),), (1, 0))])
        self.assertEqual((sale.book(), sale.told("ann")), ((), None))

    def test_told_well_behind_a_refused_one(self):
        sale = Sale(HOUSE)
        self.assert_nothing(sale, lambda name, prices: None, NoBundle)
        sale.tell_by(lambda name, prices: (1, 0))
        self.assertEqual(sale.bell(), "cleared")
        self.assertEqual(sale.log(), LOGGED * 2)


class NoPhase(unittest.TestCase):
    def test_nobody_is_asked_and_nothing_logged(self):
        sale = Sale(HOUSE)
        sale.tell_by(lambda name, prices: (0, 0))
        sale.bell()
        asked = []
        for phase in ("sealed", "done"):
            before = seen(sale)
            self.assertEqual(refusal(lambda: sale.tell_by(lambda name, prices: asked.append(name))),
                             ("NoPhase", (phase,)))
            self.assertEqual((asked, sale.log(), seen(sale)), ([], LOGGED, before))
            if phase == "sealed":
                sale.settle()


if __name__ == "__main__":
    unittest.main()
