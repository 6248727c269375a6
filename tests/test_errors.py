"""The thirteen error classes of the interface: bases, fields, and that they keep what they were made with."""

import inspect
import unittest

from bundleclocks import errors

RING = (("round", 0, (1, 0)), ("round", 1, (0, 1)))

# Each class with its base, and its fields in the order told, with a value that each may have.
TOLD = {
    "NoHouse": (TypeError, {"part": "bidders", "place": 2}),
    "NoBidder": (KeyError, {"name": "zed"}),
    "NoBundle": (ValueError, {"bundle": (1, 2, 3)}),
    "NoPhase": (RuntimeError, {"now": "sealed"}),
    "NoPoints": (ArithmeticError, {"have": 3, "want": 5}),
    "NoWorths": (ValueError, {"ring": RING}),
    "NotAll": (LookupError, {"names": ("ann", "bob")}),
    "NoLast": (LookupError, {"bundle": (0, 1)}),
    "NoMoney": (ValueError, {"least": 13}),
    "TooMany": (OverflowError, {"limit": 8}),
    "NoChoice": (ValueError, {"place": None}),
    "NoRow": (RuntimeError, {"row": "ring the bell"}),
    "NoLine": (IndexError, {"at": -4, "lines": 3}),
}

ANY_THING_FIELDS = (("NoBidder", "name"), ("NoBundle", "bundle"), ("NoRow", "row"))


def class_of(name):
    return getattr(errors, name)


def caught(made, base):
    try:
        raise made
    except base as error:
        return error


class Classes(unittest.TestCase):
    def test_these_thirteen_and_no_others(self):
        classes = [name for name, value in vars(errors).items() if inspect.isclass(value)]
        self.assertEqual(sorted(classes), sorted(TOLD))
        self.assertEqual(len(classes), 13)

    def test_each_stands_straight_under_its_base(self):
        for name, (base, fields) in TOLD.items():
            with self.subTest(name):
                self.assertEqual(class_of(name).__bases__, (base,))

    def test_none_stands_under_another_one(self):
        for one in TOLD:
            for other in TOLD:
                with self.subTest(one=one, other=other):
                    self.assertEqual(issubclass(class_of(one), class_of(other)), one == other)


class Fields(unittest.TestCase):
    def assert_fields(self, error, fields):
        for field, value in fields.items():
            self.assertEqual(getattr(error, field), value)
            self.assertIs(type(getattr(error, field)), type(value))

    def test_made_by_places(self):
        for name, (base, fields) in TOLD.items():
            with self.subTest(name):
                self.assert_fields(caught(class_of(name)(*fields.values()), base), fields)

    def test_made_by_names_in_another_order(self):
        for name, (base, fields) in TOLD.items():
            with self.subTest(name):
                turned = dict(reversed(list(fields.items())))
                self.assert_fields(caught(class_of(name)(**turned), base), fields)

    def test_a_field_that_may_be_none_is_none(self):
        self.assertIsNone(errors.NoHouse("kinds", None).place)
        self.assertIsNone(errors.NoChoice(None).place)
        self.assertEqual(errors.NoChoice(0).place, 0)

    def test_the_limit_is_eight_where_none_is_handed_in(self):
        self.assertEqual(errors.TooMany().limit, 8)

    def test_two_errors_of_one_class_share_nothing(self):
        first, second = errors.NoPoints(1, 2), errors.NoPoints(3, 4)
        self.assertEqual((first.have, first.want, second.have, second.want), (1, 2, 3, 4))

    def test_each_has_words_of_its_own(self):
        words = [str(class_of(name)(*fields.values())) for name, (base, fields) in TOLD.items()]
        self.assertTrue(all(words))
        self.assertEqual(len(set(words)), 13)


class AnyThings(unittest.TestCase):
    def test_any_thing_is_kept_as_it_is(self):
        deep = [[[[[[[[1]]]]]]]]
        for thing in (None, True, 0, -5, 10 ** 20 - 1, "", "a b", (), [], (1, (2, [3])), [None, ["x", (False,)]], deep):
            for name, field in ANY_THING_FIELDS:
                with self.subTest(name, thing=thing):
                    kept = getattr(class_of(name)(thing), field)
                    self.assertEqual(repr(kept), repr(thing))

    def test_what_is_done_to_the_handed_in_list_changes_no_error(self):
        for name, field in ANY_THING_FIELDS:
            with self.subTest(name):
                inner = [2]
                thing = [1, (inner, "a")]
                error = class_of(name)(thing)
                thing.append(3)
                inner.append(4)
                self.assertEqual(getattr(error, field), [1, ([2], "a")])

    def test_what_is_done_to_the_field_changes_nothing_handed_in(self):
        for name, field in ANY_THING_FIELDS:
            with self.subTest(name):
                thing = ([1, [2]], "a")
                kept = getattr(class_of(name)(thing), field)
                kept[0][1].clear()
                kept[0].append(9)
                self.assertEqual(thing, ([1, [2]], "a"))


if __name__ == "__main__":
    unittest.main()
