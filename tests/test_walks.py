"""Points 2, 3 and 10 to 18 over rows of deeds in any order: each answer and refusal told again by a model."""

import random
import unittest
from collections import Counter

from bundleclocks.houses import House
from bundleclocks.sales import Sale
from model import Again, deed_faults, random_bundle, random_deed, random_house, random_values, random_walk, seen


def do_again(sale, line):
    """The deed that a line of a book tells of."""
    if line[0] == "tell":
        sale.tell(line[1], line[2])
    elif line[0] == "seal":
        sale.seal(line[1], line[2], money=line[3])
    else:
        {"bell": sale.bell, "settle": sale.settle}[line[0]]()


def made_again(sale, rounds, book):
    other = Sale(sale.house(), rounds=rounds)
    for line in book:
        do_again(other, line)
    return other


def shuffled(rng, book):
    """The book with the tells of each round, and the seals of different bidders, in another order."""
    order, some = [], []
    for line in book + (("end",),):
        if line[0] in ("tell", "seal"):
            some.append(line)
            continue
        # Each bidder's own lines keep their order.
        names = [one[1] for one in some]
        rng.shuffle(names)
        rows = {name: [one for one in some if one[1] == name] for name in names}
        order += [rows[name].pop(0) for name in names] + [line]
        some = []
    return tuple(order[:-1])


class Walks(unittest.TestCase):
    def test_each_deed_told_again(self):
        phases, lines = Counter(), Counter()
        for seed in range(250):
            sale, model, faults = random_walk(seed, 80)
            self.assertEqual(faults, [], seed)
            phases[sale.phase()] += 1
            lines.update([line[:2] if line[0] == "bell" else line[:1] for line in sale.book()])
        self.assertGreater(phases["done"], 100)
        for line in (("tell",), ("seal",), ("settle",), ("bell", "on"), ("bell", "cleared"), ("bell", "late")):
            self.assertGreater(lines[line], 50, line)

    def test_each_refusal_is_met(self):
        words = Counter()
        for seed in range(1000, 1150):
            rng = random.Random(seed)
            house = random_house(rng)
            values = random_values(rng, house)
            sale, model = Sale(house), Again(house)
            for turn in range(60):
                word, arguments, named = random_deed(rng, model, house, values)
                before = (seen(sale), sale.log())
                try:
                    getattr(sale, word)(*arguments, **named)
                except (TypeError, AttributeError):
                    raise
                except Exception as error:
                    words[type(error).__name__] += 1
                    # What is refused changes nothing but a log.
                    log = sale.log()
                    self.assertEqual(seen(sale).replace(repr(log), repr(before[1])), before[0])
                    self.assertIs(sale.is_busy(), False)
                model = self.caught_up(model, sale, house)
        for word in ("NoPhase", "NoBidder", "NoBundle", "NoPoints", "NoWorths", "NotAll", "NoLast", "NoMoney"):
            self.assertGreater(words[word], 5, word)

    def caught_up(self, model, sale, house):
        for line in sale.book()[len(model.book):]:
            do_again(model, line)
        return model

    def test_the_longest_walk(self):
        rng = random.Random(7)
        house = House((("wood", 4, 1, 1, 0), ("coal", 4, 1, 1, 0), ("salt", 4, 1, 1, 0)),
                      tuple([(name, 99) for name in "abcdef"]))
        sale, model = Sale(house, rounds=12), Again(house, 12)
        while len(sale) < 300:
            name = rng.choice("abcdef")
            deed = ("tell", (name, random_bundle(rng, house)), {})
            self.assertEqual(deed_faults(sale, model, deed), [])
            if all([sale.told(name) is not None for name in "abcdef"]) and sale.turn() < 12 and rng.random() < 0.2:
                self.assertEqual(deed_faults(sale, model, ("bell", (), {})), [])


class MadeAgain(unittest.TestCase):
    def test_from_its_book(self):
        for seed in range(40):
            sale, model, faults = random_walk(seed, 60)
            other = made_again(sale, model.rounds, sale.book())
            self.assertTrue(other == sale)
            self.assertEqual(seen(other).replace(repr(other.log()), repr(sale.log())), seen(sale))

    def test_from_each_part_of_its_book(self):
        for seed in range(6):
            sale, model, faults = random_walk(seed, 60)
            for many in range(len(sale)):
                other = made_again(sale, model.rounds, sale.book()[:many])
                self.assertEqual((len(other), other.book()), (many, sale.book()[:many]))
                self.assertFalse(other == sale)

    def test_in_another_order_that_comes_to_the_same(self):
        rng = random.Random(9)
        moved = 0
        for seed in range(40):
            sale, model, faults = random_walk(seed, 60)
            book = shuffled(rng, sale.book())
            other = made_again(sale, model.rounds, book)
            moved += book != sale.book()
            self.assertEqual(other == sale, book == sale.book())
            self.assertEqual(other.book(), book)
            asked = [
                (one.phase(), one.prices(), one.turn(),
                 [(one.points(name), one.told(name), one.history(name), one.bids(name)) for name in model.names])
                for one in (sale, other)
            ]
            self.assertEqual(asked[0], asked[1])
            if sale.phase() == "done":
                self.assertEqual((other.choice(), other.payments(), other.lowering()),
                                 (sale.choice(), sale.payments(), sale.lowering()))
        self.assertGreater(moved, 20)

    def test_side_by_side(self):
        # Two sales whose deeds come by turns are as each of them alone.
        for seed in range(0, 30, 2):
            books = [random_walk(at, 60)[0] for at in (seed, seed + 1)]
            rounds = [random_walk(at, 60)[1].rounds for at in (seed, seed + 1)]
            sales = [Sale(one.house(), rounds=many) for one, many in zip(books, rounds)]
            for at in range(max([len(one) for one in books])):
                for sale, one in zip(sales, books):
                    if at < len(one):
                        do_again(sale, one.line(at))
            for sale, one in zip(sales, books):
                self.assertTrue(sale == one)


if __name__ == "__main__":
    unittest.main()
