"""Point 26: a book is let by just where a sale's deeds lead to it, whoever wrote it."""

import random
import unittest

from bundleclocks.houses import House
from bundleclocks.looker import book_stands
from bundleclocks.sales import Sale
from model import Again, Refused, random_walk
from sums import TWENTY, any_things, otherwise, part_at, paths_of, put_at
from test_clock import ANN, BOB, COAL, HOUSE, ONE, SIX, WOOD, rung

BOOK = (
    ("tell", "ann", (2, 1)), ("tell", "bob", (1, 1)), ("bell", "on"), ("tell", "ann", (2, 0)), ("tell", "bob", (1, 1)),
    ("bell", "on"), ("tell", "bob", (0, 1)), ("tell", "ann", (1, 0)), ("tell", "bob", (1, 1)), ("bell", "cleared"),
    ("seal", "ann", (1, 0), 10), ("seal", "bob", (1, 1), 13), ("seal", "ann", (1, 0), 12),
    ("settle", (2, 0), ((0, 1), (2, 1))),
)
SMALL = (("tell", "ann", (1,)), ("bell", "cleared"), ("seal", "ann", (1,), 1), ("settle", (0,), ((0, 1),)))


def stands_again(house, thing, rounds=6):
    """Whether the model's deeds lead to the very thing."""
    if type(thing) is not tuple:
        return False
    model = Again(house, rounds)
    for line in thing:
        if type(line) is not tuple or line == () or type(line[0]) is not str:
            return False
        if (line[0], len(line)) not in (("tell", 3), ("bell", 2), ("seal", 4), ("settle", 3)):
            return False
        if line[0] == "seal" and type(line[3]) is not int:
            return False
        try:
            getattr(model, line[0])(*([] if line[0] in ("bell", "settle") else line[1:]))
        except Refused:
            return False
        if repr(model.book[-1]) != repr(line):
            return False
    return True


class Books(unittest.TestCase):
    def assert_stands(self, house, thing, expected, rounds=6):
        answer = book_stands(house, thing, rounds=rounds)
        self.assertIs(answer, expected, thing)
        self.assertIs(stands_again(house, thing, rounds), expected, thing)

    def test_each_part_of_a_book_from_its_beginning(self):
        for many in range(len(BOOK) + 1):
            self.assert_stands(HOUSE, BOOK[:many], True)
        self.assert_stands(ONE, SMALL, True)
        self.assert_stands(SIX, (), True)

    def test_told_ones(self):
        lengths = []
        for seed in range(60):
            sale, model, faults = random_walk(seed, 80)
            self.assert_stands(sale.house(), sale.book(), True, model.rounds)
            lengths.append(len(sale))
        self.assertGreater(max(lengths), 30)

    def test_told_through_a_def(self):
        sale = Sale(HOUSE)
        sale.tell_by(lambda name, prices: (1, 0))
        self.assert_stands(HOUSE, sale.book(), True)

    def test_lines_left_out(self):
        for at in range(len(BOOK)):
            book = BOOK[:at] + BOOK[at + 1:]
            # Bob's first word in the third round, and the seals that aren't the last ones, are not missed.
            self.assert_stands(HOUSE, book, stands_again(HOUSE, book))
        for at in (0, 1, 2, 3, 5, 7, 9):
            self.assertIs(book_stands(HOUSE, BOOK[:at] + BOOK[at + 1:]), False)
        self.assertIs(book_stands(HOUSE, BOOK[:6] + BOOK[7:]), True)
        self.assertIs(book_stands(HOUSE, BOOK[:10] + BOOK[11:]), True)

    def test_lines_put_in_twice(self):
        for at in range(len(BOOK)):
            book = BOOK[:at + 1] + BOOK[at:]
            self.assert_stands(HOUSE, book, BOOK[at][0] == "tell")

    def test_lines_in_another_order(self):
        for at in range(len(BOOK) - 1):
            book = BOOK[:at] + (BOOK[at + 1], BOOK[at]) + BOOK[at + 2:]
            self.assert_stands(HOUSE, book, stands_again(HOUSE, book))
        self.assertIs(book_stands(HOUSE, BOOK[:1] + BOOK[2:3] + BOOK[1:2] + BOOK[3:]), False)
        self.assertIs(book_stands(HOUSE, (BOOK[1], BOOK[0]) + BOOK[2:]), True)
        self.assert_stands(HOUSE, BOOK[::-1], False)

    def test_of_other_houses(self):
        others = (
            House((WOOD, COAL), (BOB, ANN)), House((COAL, WOOD), (ANN, BOB)), House((WOOD,), (ANN, BOB)),
            House((WOOD, COAL), (ANN,)), House((WOOD, COAL), (ANN, BOB, ("cid", 0))),
            House((WOOD, COAL), (ANN, ("cid", 3))), House((WOOD, COAL), (("ann", 3), BOB)),
            House((("wood", 3, 5, 2, 1), COAL), (ANN, BOB)), House((("wood", 2, 99, 2, 1), COAL), (ANN, BOB)),
            House((("wood", 2, 5, 50, 1), COAL), (ANN, BOB)), House((("wood", 2, 5, 2, 2), COAL), (ANN, BOB)), ONE, SIX,
        )
        for house in others:
            self.assert_stands(house, BOOK, False)
        # Names of kinds are in no line, and points beyond all bundles change nothing.
        self.assert_stands(House((("a",) + WOOD[1:], COAL), (("ann", 99), BOB)), BOOK, True)

    def test_of_other_numbers_of_rounds(self):
        for rounds in range(1, 13):
            self.assert_stands(HOUSE, BOOK, rounds >= 3, rounds)
        late = Sale(HOUSE, rounds=2)
        rung(late, ((2, 1), (1, 1)), ((2, 1), (1, 1)))
        for rounds in range(1, 13):
            self.assert_stands(HOUSE, late.book(), rounds == 2, rounds)
        six = Sale(HOUSE)
        rung(six, *[((2, 1), (1, 1))] * 6)
        self.assertIs(book_stands(HOUSE, six.book()), True)
        self.assertIs(book_stands(HOUSE, six.book(), rounds=7), False)

    def test_refused_deeds(self):
        told, sealed = BOOK[:2], BOOK[:10]
        for book in (
            (("bell", "cleared"),), BOOK[:1] + (("bell", "cleared"),), (("settle", (None, None), ((0, 1), (0, 1))),),
            (("seal", "ann", (1, 0), 5),), (("tell", "zed", (0, 0)),), (("tell", "bob", (2, 1)),),
            (("tell", "ann", (3, 1)),), sealed + (("tell", "ann", (0, 0)),), sealed + (("bell", "cleared"),),
            sealed + (("seal", "zed", (1, 0), 12),), sealed + (("seal", "ann", (0, 0), 0),),
            sealed + (("seal", "bob", (2, 1), 30),), sealed + (("seal", "ann", (2, 0), 18),),
            sealed + (("seal", "ann", (1, 0), -1),), sealed + (("seal", "ann", (1, 0), 8),),
            sealed + (BOOK[12], BOOK[10]), BOOK + (("seal", "ann", (1, 0), 13),), BOOK + BOOK[-1:],
            told + (("bell", "on"), ("tell", "bob", (2, 0)), ("tell", "bob", (1, 0)), ("tell", "bob", (2, 0))),
        ):
            self.assert_stands(HOUSE, book, stands_again(HOUSE, book))
        self.assert_stands(HOUSE, sealed + (("seal", "ann", (1, 0), 8),), False)
        self.assert_stands(HOUSE, sealed + (("seal", "ann", (1, 0), 9),), True)
        self.assert_stands(HOUSE, sealed + (("seal", "ann", (1, 0), TWENTY),), True)

    def test_the_eighth_and_the_ninth_sealed_bundle(self):
        house = House((("wood", 4, 1, 1, 0), ("coal", 4, 1, 1, 0)), (("ann", 0),))
        bundles = [(wood, coal) for wood in (1, 2) for coal in range(5)]
        book = (("tell", "ann", (0, 0)), ("bell", "cleared")) + tuple([("seal", "ann", one, 0) for one in bundles])
        self.assert_stands(house, book[:10], True)
        self.assert_stands(house, book[:11], False)
        self.assert_stands(house, book[:10] + (("seal", "ann", (1, 4), 1),), True)

    def test_told_otherwise(self):
        self.assert_stands(HOUSE, BOOK[:2] + (("bell", "late"),), False)
        self.assert_stands(HOUSE, BOOK[:2] + (("bell", "cleared"),), False)
        self.assert_stands(HOUSE, BOOK[:9] + (("bell", "on"),), False)
        self.assert_stands(HOUSE, BOOK[:13] + (("settle", (2, 0), ((0, 1), (3, 1))),), False)
        self.assert_stands(HOUSE, BOOK[:13] + (("settle", (2, None), ((0, 1), (0, 1))),), False)
        self.assert_stands(HOUSE, BOOK[:13] + (("settle", (2, 0)),), False)
        self.assert_stands(HOUSE, BOOK[:13] + (("settle", (2, 0), ((0, 1), (4, 2))),), False)

    def test_each_part_otherwise(self):
        answers = []
        for house, book in ((HOUSE, BOOK), (ONE, SMALL)):
            for path in paths_of(book):
                for part in otherwise(part_at(book, path)):
                    other = put_at(book, path, part)
                    answers.append(stands_again(house, other))
                    self.assertIs(book_stands(house, other), answers[-1], other)
        self.assertGreater(answers.count(False), 1000)
        self.assertGreater(answers.count(True), 5)

    def test_truths_in_place_of_numbers(self):
        self.assert_stands(ONE, SMALL, True)
        for path, part in (((0, 2, 0), True), ((2, 2, 0), True), ((2, 3), True), ((3, 1, 0), False),
                           ((3, 2, 0, 0), False), ((3, 2, 0, 1), True)):
            self.assert_stands(ONE, put_at(SMALL, path, part), False)

    def test_random_books_put_otherwise(self):
        rng = random.Random(61)
        answers = []
        for seed in range(60):
            sale, model, faults = random_walk(seed, 60)
            for turn in range(15):
                path = rng.choice(paths_of(sale.book())[1:] or [()])
                book = put_at(sale.book(), path, rng.choice(otherwise(part_at(sale.book(), path))))
                answers.append(stands_again(sale.house(), book, model.rounds))
                self.assertIs(book_stands(sale.house(), book, rounds=model.rounds), answers[-1], book)
        self.assertGreater(answers.count(False), 500)
        self.assertGreater(answers.count(True), 5)

    def test_any_things(self):
        for thing in any_things():
            self.assert_stands(HOUSE, thing, repr(thing) == "()")
            self.assert_stands(HOUSE, (thing,), False)
            self.assert_stands(HOUSE, BOOK + (thing,), False)
            self.assert_stands(HOUSE, (thing,) + BOOK, False)
            self.assert_stands(HOUSE, ((thing,),), False)
            self.assert_stands(HOUSE, (("tell", thing, (1, 0)),), False)
            self.assert_stands(HOUSE, (("tell", "ann", thing),), False)
            self.assert_stands(HOUSE, BOOK[:10] + (("seal", "ann", thing, 12),), False)
            self.assert_stands(HOUSE, BOOK[:10] + (("seal", "ann", (1, 0), thing),), thing == TWENTY)
            self.assert_stands(HOUSE, BOOK[:2] + (("bell", thing),), False)
        self.assert_stands(HOUSE, list(BOOK), False)
        self.assert_stands(HOUSE, tuple([list(line) for line in BOOK]), False)

    def test_by_names_again_and_nothing_is_changed(self):
        self.assertIs(book_stands(thing=BOOK, house=HOUSE), True)
        self.assertIs(book_stands(HOUSE, BOOK, rounds=6), book_stands(HOUSE, BOOK))
        self.assertRaises(TypeError, book_stands, HOUSE, BOOK, 6)
        thing = [["tell", "ann", [1, 0]]]
        self.assertIs(book_stands(HOUSE, thing), False)
        self.assertIs(book_stands(HOUSE, (("tell", ["ann"], thing),)), False)
        self.assertEqual(thing, [["tell", "ann", [1, 0]]])

    def test_three_hundred_lines_and_somewhat_more(self):
        for many in (300, 400):
            book = (("tell", "ann", (1, 0)), ("tell", "ann", (0, 0))) * (many // 2)
            self.assert_stands(HOUSE, book, True)
            self.assert_stands(HOUSE, book + (("tell", "ann", (9, 9)),), False)


if __name__ == "__main__":
    unittest.main()
