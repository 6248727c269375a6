"""Point 5, and what point 2 tells of houses: what makes one, what it answers, and what is refused."""

import unittest

from bundleclocks.errors import NoBidder, NoHouse
from bundleclocks.houses import House

WOOD = ("wood", 3, 10, 2, 1)
COAL = ("coal", 1, 0, 5, 0)
SALT = ("salt", 4, 999, 99, 9)
ANN = ("ann", 20)
BOB = ("bob", 0)
SIX = (("a", 0), ("b", 1), ("c", 2), ("d", 3), ("e", 4), ("f", 99))

# The least and the most of each number behind a kind's name, and behind a bidder's.
KIND_BOUNDS = ((1, 4), (0, 999), (1, 99), (0, 9))
BIDDER_BOUNDS = ((0, 99),)
TWENTY = 99999999999999999999

# No whole numbers, though some of them are like one.
NO_NUMBERS = (True, False, None, "", "1", "a", (), (1,), [], [1], [[]])
NO_NAMES = ("", "A", "Ann", "anN", "ninelongs", "ann1", "1", "an n", " ann", "ann ", "an-n", "ann_", "`", "{", "~", " ",
            "ann:", "abcdefghi", "a" * 400, None, 0, 1, True, False, (), ("ann",), [], ["a"], ["a", "n", "n"])
GOOD_NAMES = ("a", "z", "ab", "zz", "abcdefgh", "ijklmnop", "qrstuvwx", "yz", "zzzzzzzz", "none", "house")
NO_ROWS = (None, True, False, 0, 5, "", "abcde", "ab", (), [], (None,), ((),), [[]])


def with_part(row, place, part):
    return row[:place] + (part,) + row[place + 1:]


def nested(depth, innermost, make):
    thing = innermost
    for turn in range(depth):
        thing = make(thing)
    return thing


def any_things():
    return (
        None, True, False, 0, 1, -1, TWENTY, -TWENTY, "", "ann", " ", "~", "a" * 400,
        (), [], ((),), [[]], [()], (None,), [0] * 2999, (None,) * 2999,
        nested(7, [1], lambda thing: [thing]), nested(7, (), lambda thing: (thing,)),
        ["ann"], ("ann",), ("ann", 20), [("ann", 20)], [["wood", 3, 10, 2, 1]],
    )


class Made(unittest.TestCase):
    def assert_tuple(self, answer, expected):
        self.assertEqual(answer, expected)
        self.assertIs(type(answer), tuple)
        self.assertEqual([type(part) for part in answer], [type(part) for part in expected])

    def test_of_one_kind_and_one_bidder(self):
        house = House((WOOD,), (ANN,))
        self.assert_tuple(house.kinds(), (WOOD,))
        self.assert_tuple(house.bidders(), (ANN,))
        self.assert_tuple(house.amounts(), (3,))
        self.assert_tuple(house.prices(), (10,))
        self.assert_tuple(house.steps(), (2,))
        self.assert_tuple(house.points(), (1,))
        self.assertEqual(house.place_of("ann"), 0)

    def test_of_two_kinds_and_two_bidders(self):
        house = House((WOOD, COAL), (BOB, ANN))
        self.assert_tuple(house.kinds(), (WOOD, COAL))
        self.assert_tuple(house.bidders(), (BOB, ANN))
        self.assert_tuple(house.amounts(), (3, 1))
        self.assert_tuple(house.prices(), (10, 0))
        self.assert_tuple(house.steps(), (2, 5))
        self.assert_tuple(house.points(), (1, 0))
        self.assertEqual((house.place_of("bob"), house.place_of("ann")), (0, 1))

    def test_of_three_kinds_and_six_bidders(self):
        house = House((SALT, COAL, WOOD), SIX)
        self.assert_tuple(house.kinds(), (SALT, COAL, WOOD))
        self.assert_tuple(house.bidders(), SIX)
        self.assert_tuple(house.amounts(), (4, 1, 3))
        self.assert_tuple(house.prices(), (999, 0, 10))
        self.assert_tuple(house.steps(), (99, 5, 2))
        self.assert_tuple(house.points(), (9, 0, 1))
        self.assertEqual([house.place_of(name) for name in "abcdef"], [0, 1, 2, 3, 4, 5])

    def test_by_names_in_another_order(self):
        house = House(bidders=(ANN,), kinds=(WOOD, COAL))
        self.assertEqual(house, House((WOOD, COAL), (ANN,)))
        self.assertEqual(house, House((WOOD, COAL), bidders=(ANN,)))
        self.assertEqual(house.place_of(name="ann"), 0)

    def test_both_are_to_be_handed_in(self):
        with self.assertRaises(TypeError) as refused:
            House((WOOD,))
        self.assertNotIsInstance(refused.exception, NoHouse)

    def test_each_number_at_its_bounds(self):
        for at, bounds in enumerate(KIND_BOUNDS):
            for number in bounds:
                row = with_part(WOOD, at + 1, number)
                with self.subTest(row):
                    house = House((COAL, row), (ANN,))
                    self.assert_tuple(house.kinds()[1], row)
                    told = (house.amounts(), house.prices(), house.steps(), house.points())
                    self.assertEqual([numbers[1] for numbers in told], list(row[1:]))
        for number in BIDDER_BOUNDS[0]:
            self.assert_tuple(House((WOOD,), (ANN, ("bob", number))).bidders()[1], ("bob", number))

    def test_each_number_between_its_bounds(self):
        for at, (least, most) in enumerate(KIND_BOUNDS):
            for number in range(least, most + 1):
                row = with_part(WOOD, at + 1, number)
                self.assertEqual(House((row,), (ANN,)).kinds(), (row,))
        for number in range(100):
            self.assertEqual(House((WOOD,), (("ann", number),)).bidders(), (("ann", number),))

    def test_names_of_one_to_eight_small_letters(self):
        for name in GOOD_NAMES:
            with self.subTest(name):
                house = House((with_part(WOOD, 0, name),), (BOB, (name, 4)))
                self.assertEqual(house.kinds()[0][0], name)
                self.assertEqual(house.place_of(name), 1)

    def test_a_kinds_name_may_be_a_bidders(self):
        house = House((WOOD, COAL), (("coal", 1), ("wood", 2)))
        self.assertEqual((house.place_of("coal"), house.place_of("wood")), (0, 1))
        self.assertEqual(str(house), "wood coal : coal wood")

    def test_rows_alike_but_for_their_names(self):
        kinds = tuple([with_part(WOOD, 0, name) for name in ("x", "y", "z")])
        self.assertEqual(House(kinds, (ANN,)).amounts(), (3, 3, 3))
        self.assertEqual(len(House(kinds, tuple([(name, 7) for name in "abcdef"]))), 6)


class Refused(unittest.TestCase):
    def assert_refused(self, kinds, bidders, part, place):
        with self.assertRaises(NoHouse) as refused:
            House(kinds, bidders)
        self.assertEqual((refused.exception.part, refused.exception.place), (part, place), (kinds, bidders))
        self.assertIs(type(refused.exception.place), type(place))

    def assert_row_refused(self, kind=None, bidder=None):
        """A wrong row is refused by its place, whichever it is."""
        if kind is not None:
            self.assert_refused((kind,), (ANN,), "kinds", 0)
            self.assert_refused((kind, COAL, SALT), (ANN,), "kinds", 0)
            self.assert_refused((COAL, kind), (ANN,), "kinds", 1)
            self.assert_refused((COAL, kind, SALT), (ANN,), "kinds", 1)
            self.assert_refused((COAL, SALT, kind), (ANN, BOB), "kinds", 2)
        if bidder is not None:
            self.assert_refused((WOOD,), (bidder,), "bidders", 0)
            self.assert_refused((WOOD,), (bidder, BOB), "bidders", 0)
            self.assert_refused((WOOD, COAL), (BOB, bidder), "bidders", 1)
            self.assert_refused((WOOD, COAL, SALT), SIX[:3] + (bidder,) + SIX[3:5], "bidders", 3)
            self.assert_refused((WOOD,), SIX[:5] + (bidder,), "bidders", 5)

    def test_no_tuple_of_so_many(self):
        for thing in any_things():
            with self.subTest(thing):
                if not isinstance(thing, tuple) or len(thing) == 0 or len(thing) > 3:
                    self.assert_refused(thing, (ANN,), "kinds", None)
                if not isinstance(thing, tuple) or len(thing) == 0 or len(thing) > 6:
                    self.assert_refused((WOOD,), thing, "bidders", None)

    def test_none_or_more_than_may_be(self):
        self.assert_refused((), (ANN,), "kinds", None)
        self.assert_refused((WOOD, COAL, SALT, ("iron", 1, 1, 1, 1)), (ANN,), "kinds", None)
        self.assert_refused((None, COAL, SALT, SALT), (ANN,), "kinds", None)
        self.assert_refused((WOOD,), (), "bidders", None)
        self.assert_refused((WOOD,), SIX + (("g", 1),), "bidders", None)
        self.assert_refused((WOOD,), (None,) * 7, "bidders", None)

    def test_lists_in_place_of_tuples(self):
        self.assert_refused([WOOD], (ANN,), "kinds", None)
        self.assert_refused((WOOD,), [ANN], "bidders", None)
        self.assert_row_refused(kind=list(WOOD), bidder=list(ANN))

    def test_the_row_in_place_of_the_tuple_of_rows(self):
        self.assert_refused(WOOD, (ANN,), "kinds", None)
        self.assert_refused((WOOD,), ANN, "bidders", 0)

    def test_what_is_no_row(self):
        for thing in NO_ROWS + any_things():
            with self.subTest(thing):
                if thing is None:
                    self.assert_refused((COAL, None), (ANN,), "kinds", 1)
                    self.assert_refused((WOOD,), (BOB, None), "bidders", 1)
                else:
                    self.assert_row_refused(kind=thing, bidder=None if thing == ("ann", 20) else thing)

    def test_one_part_too_few_or_too_many(self):
        for kind in (WOOD[:4], WOOD[1:], WOOD[:1], WOOD + (1,), WOOD + (None,), ("wood", WOOD[1:])):
            self.assert_row_refused(kind=kind)
        for bidder in (ANN[:1], ANN[1:], ANN + (1,), ANN + (None,), WOOD, (ANN, ANN), ("ann", (20,))):
            self.assert_row_refused(bidder=bidder)

    def test_each_number_just_beyond_its_bounds_and_far_beyond(self):
        for at, (least, most) in enumerate(KIND_BOUNDS):
            for number in (least - 1, most + 1, -most, TWENTY, -TWENTY):
                with self.subTest(at=at, number=number):
                    self.assert_row_refused(kind=with_part(WOOD, at + 1, number))
        for number in (-1, 100, -99, TWENTY, -TWENTY):
            self.assert_row_refused(bidder=("ann", number))

    def test_truths_and_other_things_in_place_of_numbers(self):
        for thing in NO_NUMBERS:
            with self.subTest(thing):
                for at in range(1, 5):
                    self.assert_row_refused(kind=with_part(WOOD, at, thing))
                self.assert_row_refused(bidder=("ann", thing))

    def test_names_that_are_none(self):
        for thing in NO_NAMES:
            with self.subTest(thing):
                self.assert_row_refused(kind=with_part(WOOD, 0, thing), bidder=(thing, 20))

    def test_names_that_stand_twice(self):
        again = ("wood", 1, 1, 1, 1)
        self.assert_refused((WOOD, WOOD), (ANN,), "kinds", 1)
        self.assert_refused((WOOD, again), (ANN,), "kinds", 1)
        self.assert_refused((WOOD, again, COAL), (ANN,), "kinds", 1)
        self.assert_refused((WOOD, COAL, again), (ANN,), "kinds", 2)
        self.assert_refused((COAL, WOOD, again), (ANN,), "kinds", 2)
        self.assert_refused((WOOD, WOOD, WOOD), (ANN,), "kinds", 1)
        self.assert_refused((WOOD,), (ANN, ANN), "bidders", 1)
        self.assert_refused((WOOD,), (ANN, BOB, ("ann", 3)), "bidders", 2)
        self.assert_refused((WOOD,), SIX[:5] + (("a", 5),), "bidders", 5)
        self.assert_refused((WOOD,), SIX[:2] + (("b", 5), ("a", 5)), "bidders", 2)

    def test_the_first_of_several_places(self):
        self.assert_refused((WOOD, WOOD, None), (ANN,), "kinds", 1)
        self.assert_refused((WOOD, None, WOOD), (ANN,), "kinds", 1)
        self.assert_refused((None, WOOD, WOOD), (ANN,), "kinds", 0)
        self.assert_refused((None, None), (ANN,), "kinds", 0)
        self.assert_refused((WOOD,), (ANN, ("bob", 100), ("ann", 1)), "bidders", 1)
        self.assert_refused((WOOD,), (ANN, ("ann", 1), ("bob", 100)), "bidders", 1)
        # A row's name counts as told ahead only where rows ahead are as told, so this place is the first anyway.
        self.assert_refused((WOOD,), (("bob", 100), ("bob", 1)), "bidders", 0)

    def test_kinds_ahead_of_bidders(self):
        for kinds, place in (((), None), (None, None), ((None,), 0), ((WOOD, COAL, WOOD), 2)):
            for bidders in ((), None, [ANN], (None,), (ANN, ANN), (ANN,)):
                self.assert_refused(kinds, bidders, "kinds", place)

    def test_no_house_at_all_of_any_two_things(self):
        for kinds in any_things():
            for bidders in any_things():
                with self.assertRaises(NoHouse) as refused:
                    House(kinds, bidders)
                self.assertEqual(refused.exception.part, "kinds")

    def test_what_is_refused_stays_as_it_was(self):
        kinds, bidders = [list(WOOD), [WOOD]], [[["ann"], 20]]
        self.assert_refused(kinds, (ANN,), "kinds", None)
        self.assert_refused((WOOD,), bidders, "bidders", None)
        self.assert_refused((WOOD, kinds), (ANN,), "kinds", 1)
        self.assertEqual((kinds, bidders), ([list(WOOD), [WOOD]], [[["ann"], 20]]))


class PlaceOf(unittest.TestCase):
    def test_each_bidders_place(self):
        for many in range(1, 7):
            house = House((WOOD,), SIX[:many])
            for place, (name, points) in enumerate(SIX[:many]):
                answer = house.place_of(name)
                self.assertEqual(answer, place)
                self.assertIs(type(answer), int)

    def test_no_bidder_of_any_thing(self):
        house = House((WOOD, COAL), (BOB, ("zed", 1)))
        for thing in any_things() + ("wood", "coal", "bo", "bobb", "BOB", "Bob", " bob", "bob zed", BOB, ("bob",), 0):
            with self.subTest(thing):
                with self.assertRaises(NoBidder) as refused:
                    house.place_of(thing)
                self.assertEqual(refused.exception.name, thing)
                self.assertIs(type(refused.exception.name), type(thing))

    def test_the_error_keeps_nothing_that_may_be_changed(self):
        asked = ["bob", ["bob"]]
        with self.assertRaises(NoBidder) as refused:
            House((WOOD,), (BOB,)).place_of(asked)
        asked[1].append("more")
        self.assertEqual(refused.exception.name, ["bob", ["bob"]])

    def test_refused_it_stays_the_same(self):
        house = House((WOOD,), (BOB,))
        with self.assertRaises(NoBidder):
            house.place_of("ann")
        self.assertEqual(house.place_of("bob"), 0)
        self.assertEqual(house, House((WOOD,), (BOB,)))


class Likeness(unittest.TestCase):
    def assert_like(self, one, other, expected):
        self.assertIs(one == other, expected)
        self.assertIs(other == one, expected)
        self.assertIs(one != other, not expected)
        self.assertIs(other != one, not expected)

    def test_the_same_where_kinds_and_bidders_are(self):
        for kinds in ((WOOD,), (WOOD, COAL), (SALT, COAL, WOOD)):
            for bidders in ((ANN,), (BOB, ANN), SIX):
                house = House(kinds, bidders)
                self.assert_like(house, house, True)
                self.assert_like(house, House(tuple(list(kinds)), tuple(list(bidders))), True)

    def test_another_one_where_any_part_differs(self):
        house = House((WOOD, COAL), (ANN, BOB))
        for at in range(2):
            for part, parts in enumerate((("iron", "salt"),) + KIND_BOUNDS):
                kinds = [WOOD, COAL]
                for other in [other for other in parts if other != kinds[at][part]]:
                    kinds[at] = with_part(kinds[at], part, other)
                    self.assert_like(house, House(tuple(kinds), (ANN, BOB)), False)
        for bidders in ((ANN,), (BOB, ANN), (ANN, ("bob", 1)), (ANN, ("bobb", 0)), (ANN, BOB, ("eve", 1))):
            self.assert_like(house, House((WOOD, COAL), bidders), False)
        for kinds in ((WOOD,), (COAL, WOOD), (WOOD, COAL, SALT)):
            self.assert_like(house, House(kinds, (ANN, BOB)), False)

    def test_unlike_each_thing_that_is_no_house(self):
        house = House((WOOD,), (ANN,))
        parts = ((WOOD,), (ANN,), ((WOOD,), (ANN,)), [(WOOD,), (ANN,)], str(house), repr(house), len(house))
        for thing in any_things() + parts:
            with self.subTest(thing):
                self.assert_like(house, thing, False)
        self.assert_like(house, House, False)
        self.assert_like(house, object(), False)
        self.assertIs(house in [None, (WOOD,), 1], False)

    def test_len_and_truth(self):
        for many in range(1, 7):
            for kinds in ((WOOD,), (WOOD, COAL, SALT)):
                house = House(kinds, SIX[:many])
                self.assertEqual(len(house), many)
                self.assertIs(bool(house), True)


class Texts(unittest.TestCase):
    def test_the_text(self):
        self.assertEqual(str(House((WOOD, COAL), (ANN, BOB))), "wood coal : ann bob")
        self.assertEqual(str(House((WOOD,), (ANN,))), "wood : ann")
        self.assertEqual(str(House((COAL, SALT, WOOD), SIX)), "coal salt wood : a b c d e f")
        self.assertEqual(f"{House((COAL,), (BOB, ANN))}", "coal : bob ann")

    def test_the_repr(self):
        self.assertEqual(repr(House((WOOD,), (ANN, BOB))), "House(1, 2)")
        self.assertEqual(repr(House((WOOD, COAL), (ANN,))), "House(2, 1)")
        self.assertEqual(repr(House((WOOD, COAL, SALT), SIX)), "House(3, 6)")
        self.assertEqual(f"{[House((WOOD,), (ANN,))]}", "[House(1, 1)]")


class NeverChanged(unittest.TestCase):
    def answers(self, house):
        return (house.kinds(), house.bidders(), house.amounts(), house.prices(), house.steps(), house.points(),
                len(house), str(house), repr(house), [house.place_of(name) for name, points in house.bidders()])

    def test_the_same_answers_whatever_was_asked_between(self):
        houses = [House((WOOD,), (ANN,)), House((WOOD, COAL, SALT), SIX), House((SALT, WOOD), (BOB, ANN))]
        first = [self.answers(house) for house in houses]
        for turn in range(3):
            for at in (2, 0, 1):
                self.assertEqual(self.answers(houses[at]), first[at])
                self.assertRaises(NoBidder, houses[at].place_of, "zed")
                self.assertRaises(NoHouse, House, (), ())

    def test_its_rows_are_tuples_down_to_the_innermost(self):
        house = House((WOOD, COAL), (ANN, BOB))
        for rows in (house.kinds(), house.bidders()):
            self.assertIs(type(rows), tuple)
            self.assertEqual([type(row) for row in rows], [tuple, tuple])

    def test_made_again_of_what_it_told(self):
        house = House((WOOD, COAL), SIX)
        self.assertEqual(House(house.kinds(), house.bidders()), house)


if __name__ == "__main__":
    unittest.main()
