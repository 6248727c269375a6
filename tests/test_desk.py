"""Point 27: the rows of the desk, its answers, and what is no row."""

import re
import unittest

from bundleclocks.desk import Desk
from bundleclocks.errors import NoRow
from bundleclocks.houses import House
from bundleclocks.sales import Sale
from model import random_walk, refusal
from sums import TWENTY, any_things
from test_clock import HOUSE, ONE, SIX

FIRST = ("tell ann 2 1", "tell bob 1 1", "bell")
ROUNDS = FIRST + ("tell ann 2 0", "tell bob 1 1", "bell", "tell ann 1 0", "tell bob 1 1", "bell")
# Rows of each kind that is, at whatever phase they are refused or not.
ROWS = ("tell ann 2 1", "seal bob 13 1 1", "bell", "settle", "phase", "prices", "bids ann", "bounds bob 0 1", "won ann",
        "lines")


def said(rows, house=HOUSE, rounds=6):
    """A desk that was told the rows, and its answers."""
    desk = Desk(house, rounds=rounds)
    return desk, [desk.say(row) for row in rows]


def is_row(row, kinds=2):
    """Whether it is a row that isn't `again`, as point 27 writes it."""
    name, whole = "[a-z]{1,8}", "(0|[1-9][0-9]{0,19})"
    pieces = " ".join([whole] * kinds)
    forms = ("tell " + name + " " + pieces, "seal " + name + " " + whole + " " + pieces, "bell", "settle", "phase",
             "prices", "bids " + name, "bounds " + name + " " + pieces, "won " + name, "lines")
    return type(row) is str and any([re.fullmatch(form, row) for form in forms])


class Answers(unittest.TestCase):
    def test_a_sale_from_its_beginning_to_its_end(self):
        rows = (
            ("phase", "clock 1"), ("prices", "5 3"), ("lines", "0"), ("bids ann", "none"), ("bounds ann 1 0", "0 -"),
            ("tell ann 2 1", "ok"), ("tell bob 1 1", "ok"), ("lines", "2"), ("bell", "on"), ("phase", "clock 2"),
            ("prices", "7 4"), ("bids ann", "13:2,1"), ("bounds ann 2 1", "13 -"), ("bounds ann 0 0", "0 0"),
            ("tell ann 2 0", "ok"), ("tell bob 1 1", "ok"), ("bell", "on"), ("tell ann 1 0", "ok"),
            ("tell bob 1 1", "ok"), ("bell", "cleared"), ("phase", "sealed 3"), ("prices", "9 4"),
            ("bids ann", "13:2,1 14:2,0 9:1,0"), ("bids bob", "13:1,1"), ("seal ann 12 1 0", "ok"),
            ("bids ann", "13:2,1 14:2,0 12:1,0"), ("bounds ann 1 0", "12 12"), ("seal ann 15 1 1", "ok"),
            ("bids ann", "13:2,1 14:2,0 12:1,0 15:1,1"), ("settle", "done"), ("phase", "done 3"), ("prices", "9 4"),
            ("won ann", "1 0 for 0"), ("won bob", "1 1 for 3"), ("lines", "12"), ("bids bob", "13:1,1"),
            ("bounds bob 1 1", "13 -"),
        )
        desk = Desk(HOUSE)
        for row, answer in rows:
            self.assertEqual(desk.say(row), answer, row)
            self.assertIs(type(desk.say("lines")), str)

    def test_a_late_bell(self):
        self.assertEqual(said(("tell ann 2 1", "tell bob 1 1", "bell", "phase"), rounds=1)[1][2:], ["late", "sealed 1"])
        answers = said(("tell ann 2 1", "tell bob 1 1", "bell") * 6)[1]
        self.assertEqual(answers[2::3], ["on"] * 5 + ["late"])

    def test_of_one_kind_and_of_three(self):
        rows = ("prices", "tell ann 1", "bell", "bids ann", "seal ann 5 1", "bounds ann 1", "settle", "won ann")
        self.assertEqual(said(rows, ONE)[1], ["0", "ok", "cleared", "0:1", "ok", "5 5", "done", "1 for 0"])
        rows = ["prices"] + [f"tell {name} 0 0 0" for name in "bcdef"] + ["tell a 4 3 2", "bell", "bids a", "settle"]
        answers = said(rows + ["won a", "won f", "lines"], SIX)[1]
        self.assertEqual(answers[0], "10 20 0")
        self.assertEqual(answers[-6:], ["cleared", "100:4,3,2", "done", "4 3 2 for 0", "0 0 0 for 0", "8"])

    def test_a_payment_with_a_fraction(self):
        house = House((("wood", 2, 5, 1, 0),), (("ann", 0), ("bob", 0), ("cid", 0)))
        rows = ("tell ann 1", "tell bob 1", "tell cid 2", "bell", "tell ann 1", "tell bob 1", "tell cid 0", "bell",
                "seal ann 8 1", "seal bob 8 1", "seal cid 11 2", "settle", "won ann", "won bob", "won cid")
        self.assertEqual(said(rows, house)[1][-3:], ["1 for 11/2", "1 for 11/2", "0 for 0"])

    def test_twenty_figures(self):
        rows = ("tell ann 1", "bell", f"seal ann {TWENTY} 1", "bids ann", "bounds ann 1")
        self.assertEqual(said(rows, ONE)[1][2:], ["ok", f"{TWENTY}:1", f"{TWENTY} {TWENTY}"])
        desk = said(rows, ONE)[0]
        self.assertEqual(refusal(lambda: desk.say(f"seal ann {TWENTY + 1} 1")),
                         ("NoRow", (f"seal ann {TWENTY + 1} 1",)))
        self.assertEqual(refusal(lambda: desk.say(f"bounds ann {TWENTY}")), ("NoBundle", ((TWENTY,),)))

    def test_by_names_and_two_desks_share_nothing(self):
        one, other = Desk(house=HOUSE), Desk(HOUSE, rounds=6)
        self.assertEqual(one.say(row="tell ann 1 0"), "ok")
        self.assertEqual((one.say("lines"), other.say("lines")), ("1", "0"))
        self.assertRaises(TypeError, Desk, HOUSE, 6)

    def test_random_sales_told_by_rows(self):
        told = 0
        for seed in range(60):
            sale, model, faults = random_walk(seed, 60)
            # A row has no money of more than twenty figures.
            if max([line[3] for line in sale.book() if line[0] == "seal"] + [0]) <= TWENTY:
                desk = Desk(sale.house(), rounds=model.rounds)
                for line in sale.book():
                    self.assert_row_of(desk, line)
                self.assert_answers(desk, sale, model.names)
                told += 1
        self.assertGreater(told, 30)

    def assert_row_of(self, desk, line):
        if line[0] == "tell":
            row, answer = " ".join(["tell", line[1]] + [str(many) for many in line[2]]), "ok"
        elif line[0] == "seal":
            row, answer = " ".join(["seal", line[1], str(line[3])] + [str(many) for many in line[2]]), "ok"
        else:
            row, answer = line[0], line[1] if line[0] == "bell" else "done"
        self.assertEqual(desk.say(row), answer)

    def assert_answers(self, desk, sale, names):
        self.assertEqual(desk.say("phase"), sale.phase() + " " + str(sale.turn()))
        self.assertEqual(desk.say("prices").split(" "), [str(price) for price in sale.prices()])
        self.assertEqual(desk.say("lines"), str(len(sale)))
        for at, name in enumerate(names):
            bids = [str(money) + ":" + repr(list(bundle))[1:-1].replace(" ", "") for bundle, money in sale.bids(name)]
            self.assertEqual(desk.say("bids " + name), " ".join(bids) or "none")
            if sale.phase() == "done":
                place, (top, bottom) = sale.choice()[at], sale.payments()[at]
                won = (0,) * len(sale.prices()) if place is None else sale.bids(name)[place][0]
                paid = str(top) if bottom == 1 else f"{top}/{bottom}"
                self.assertEqual(desk.say("won " + name), " ".join([str(many) for many in won] + ["for", paid]))


class AsTheSaleRefuses(unittest.TestCase):
    def assert_refused(self, rows, row, told):
        desk, answers = said(rows)
        lines = desk.say("lines")
        self.assertEqual(refusal(lambda: desk.say(row)), told, row)
        self.assertEqual(desk.say("lines"), lines)

    def test_each_row(self):
        self.assert_refused(ROUNDS, "tell ann 0 0", ("NoPhase", ("sealed",)))
        self.assert_refused((), "tell zed 0 0", ("NoBidder", ("zed",)))
        self.assert_refused((), "tell ann 3 0", ("NoBundle", ((3, 0),)))
        self.assert_refused((), "tell bob 2 1", ("NoPoints", (3, 4)))
        self.assert_refused((), "bell", ("NotAll", (("ann", "bob"),)))
        self.assert_refused(ROUNDS, "bell", ("NoPhase", ("sealed",)))
        self.assert_refused((), "seal ann 5 1 0", ("NoPhase", ("clock",)))
        self.assert_refused(ROUNDS, "seal zed 5 1 0", ("NoBidder", ("zed",)))
        self.assert_refused(ROUNDS, "seal ann 5 0 0", ("NoBundle", ((0, 0),)))
        self.assert_refused(ROUNDS, "seal bob 5 2 1", ("NoPoints", (3, 4)))
        self.assert_refused(ROUNDS, "seal ann 14 2 0", ("NoLast", ((1, 0),)))
        self.assert_refused(ROUNDS + ("seal ann 9 1 0",), "seal ann 9 1 0", ("NoMoney", (10,)))
        self.assert_refused((), "settle", ("NoPhase", ("clock",)))
        self.assert_refused(ROUNDS + ("settle",), "settle", ("NoPhase", ("done",)))
        self.assert_refused((), "bids zed", ("NoBidder", ("zed",)))
        self.assert_refused((), "bounds zed 9 9", ("NoBidder", ("zed",)))
        self.assert_refused((), "bounds ann 0 2", ("NoBundle", ((0, 2),)))
        self.assertEqual(refusal(lambda: said(ROUNDS)[0].say("seal ann 8 1 0"))[0], "NoWorths")

    def test_the_ninth_bundle(self):
        house = House((("wood", 4, 1, 1, 0), ("coal", 4, 1, 1, 0)), (("ann", 0),))
        rows = ["tell ann 0 0", "bell"] + [f"seal ann 0 {wood} {coal}" for wood in (1, 2) for coal in (1, 2, 3, 4)]
        desk = said(rows, house)[0]
        self.assertEqual(refusal(lambda: desk.say("seal ann 0 3 3")), ("TooMany", (8,)))

    def test_won_but_when_done(self):
        self.assert_refused((), "won ann", ("NoPhase", ("clock",)))
        self.assert_refused((), "won zed", ("NoPhase", ("clock",)))
        self.assert_refused(ROUNDS, "won zed", ("NoPhase", ("sealed",)))
        self.assert_refused(ROUNDS + ("settle",), "won zed", ("NoBidder", ("zed",)))

    def test_no_row_ahead_of_all_others(self):
        for row in ("tell zed 01 0", "tell Zed 0 0", "seal zed 5 1", "won Ann", "bounds zed 9", "bell now"):
            self.assert_refused((), row, ("NoRow", (row,)))
            self.assert_refused(ROUNDS + ("settle",), row, ("NoRow", (row,)))


class NoRows(unittest.TestCase):
    def assert_no_row(self, desk, row):
        lines = desk.say("lines")
        with self.assertRaises(NoRow) as refused:
            desk.say(row)
        self.assertEqual(repr(refused.exception.row), repr(row))
        self.assertEqual(desk.say("lines"), lines)

    def test_what_is_no_text(self):
        desk = Desk(HOUSE)
        for thing in any_things() + (["bell"], ("bell",), ("tell", "ann", 1, 0), 5):
            self.assert_no_row(desk, thing)

    def test_none_of_these_rows(self):
        desk = Desk(HOUSE)
        for row in ("", " ", "again", "Bell", "BELL", "bells", "bel", "tell", "tell ann", "tell ann 1", "tell ann 1 0 0",
                    "tell 1 0", "seal ann 1 0", "seal ann 5 1 0 0", "seal 5 ann 1 0", "bids", "bids ann bob", "won",
                    "won ann bob", "bounds", "bounds ann", "bounds ann 1", "phase 1", "prices 5", "settle ann",
                    "lines 0", "points ann", "told ann", "book", "none", "n", "np", "bell;", "bell; bell", "; ", ";"):
            self.assert_no_row(desk, row)

    def test_names_that_are_none(self):
        desk = Desk(HOUSE)
        for name in ("Ann", "ANN", "ann1", "1", "0", "a-b", "a_b", "ninelongs", "abcdefghi", "~", "ann,", "an'n"):
            for row in (f"tell {name} 0 0", f"seal {name} 1 0 1", f"bids {name}", f"bounds {name} 0 0", f"won {name}"):
                self.assert_no_row(desk, row)
        for name in ("zed", "abcdefgh", "z"):
            self.assertEqual(refusal(lambda: desk.say(f"bids {name}")), ("NoBidder", (name,)))

    def test_numbers_otherwise_written(self):
        desk = Desk(HOUSE)
        for word in ("00", "01", "007", "-1", "-0", "+1", "1.0", "1,0", "1/1", "1_0", "0x1", "a", "one", "1e1", "''",
                     "(1)", "100000000000000000000", "9" * 21, "0" * 20, "True", "None"):
            for row in (f"tell ann {word} 0", f"tell ann 0 {word}", f"seal ann {word} 1 0", f"seal ann 1 {word} 0",
                        f"seal ann 1 0 {word}", f"bounds ann {word} 0", f"bounds ann 0 {word}"):
                self.assert_no_row(desk, row)

    def test_a_sign_too_many_anywhere(self):
        met = 0
        for row in ROWS:
            for at in range(len(row) + 1):
                for sign in " ;0a,-.~":
                    met += self.assert_as_written(row[:at] + sign + row[at:])
        self.assertGreater(met, 300)

    def test_a_sign_too_few_or_another_one_anywhere(self):
        met = 0
        for row in ROWS:
            for at in range(len(row)):
                met += self.assert_as_written(row[:at] + row[at + 1:])
                for sign in " 0Ab/\t\n":
                    met += self.assert_as_written(row[:at] + sign + row[at + 1:])
        self.assertGreater(met, 300)

    def assert_as_written(self, row):
        """Whether it is refused as no row is just what the form of the rows says."""
        if is_row(row):
            self.assertNotEqual((refusal(lambda: Desk(HOUSE).say(row)) or ("",))[0], "NoRow", row)
            return False
        self.assert_no_row(Desk(HOUSE), row)
        return True

    def test_pieces_are_as_many_as_there_are_kinds(self):
        for house, good in ((ONE, 1), (HOUSE, 2), (SIX, 3)):
            name = house.bidders()[0][0]
            for many in range(5):
                row = " ".join(["tell", name] + ["0"] * many)
                desk = Desk(house)
                if many == good:
                    self.assertEqual(desk.say(row), "ok")
                else:
                    self.assert_no_row(desk, row)

    def test_a_refused_list_is_not_kept(self):
        thing = ["bell"]
        told = refusal(lambda: Desk(HOUSE).say(thing))
        thing.append("bell")
        self.assertEqual(told, ("NoRow", (["bell"],)))


class AgainRows(unittest.TestCase):
    def test_rows_in_turn(self):
        desk = Desk(HOUSE)
        self.assertEqual(desk.say("again tell ann 2 1; tell bob 1 1; bell; phase; prices; lines"),
                         "ok; ok; on; clock 2; 7 4; 3")
        self.assertEqual(desk.say("again phase"), "clock 2")
        self.assertEqual(desk.say("again bids ann; bids bob"), "13:2,1; 8:1,1")

    def test_one_refused_among_them(self):
        for bad in ("bel", "", " bell", "bell ", "tell ann 01 0", "again", "again lines", "again ", "tell Ann 0 0",
                    "lines;", ";", "lines;lines", "bell;phase"):
            desk = Desk(HOUSE)
            row = f"again tell ann 2 1; lines; {bad}; tell bob 1 1"
            self.assertEqual(refusal(lambda: desk.say(row)), ("NoRow", (bad,)), bad)
            # What was done ahead stays done, what stands behind isn't done.
            self.assertEqual(desk.say("lines"), "1")
            self.assertEqual(refusal(lambda: desk.say("bell")), ("NotAll", (("bob",),)))

    def test_refused_as_the_sale_refuses(self):
        desk = Desk(HOUSE)
        self.assertEqual(refusal(lambda: desk.say("again tell ann 2 1; bell; tell bob 1 1")), ("NotAll", (("bob",),)))
        self.assertEqual(desk.say("lines"), "1")
        self.assertEqual(refusal(lambda: desk.say("again tell bob 1 1; bell; won ann; lines")), ("NoPhase", ("clock",)))
        self.assertEqual(desk.say("again lines; phase"), "3; clock 2")

    def test_the_first_and_the_last_part(self):
        for row, part, lines in (("again ", "", "0"), ("again  ", " ", "0"), ("again ;", ";", "0"),
                                 ("again ; ", "", "0"), ("again ; lines", "", "0"), ("again  lines", " lines", "0"),
                                 ("again tell ann 0 0; ", "", "1"), ("again tell ann 0 0;  ", " ", "1"),
                                 ("again tell ann 0 0; ; lines", "", "1"), ("again tell ann 0 0;; lines",
                                                                           "tell ann 0 0;", "0"),
                                 ("again again lines", "again lines", "0"), ("again again", "again", "0"),
                                 ("again lines ;lines", "lines ;lines", "0"), ("again x", "x", "0")):
            desk = Desk(HOUSE)
            self.assertEqual(refusal(lambda: desk.say(row)), ("NoRow", (part,)), row)
            self.assertEqual(desk.say("lines"), lines, row)

    def test_alone_or_otherwise_written_it_is_no_row(self):
        desk = Desk(HOUSE)
        for row in ("again", " again lines", "Again lines", "againlines", "again;lines", "again\tlines"):
            self.assertEqual(refusal(lambda: desk.say(row)), ("NoRow", (row,)))

    def test_a_long_one(self):
        row = "again " + "; ".join(["tell ann 0 0"] * 27)
        self.assertLessEqual(len(row), 400)
        desk = Desk(HOUSE)
        self.assertEqual(desk.say(row), "; ".join(["ok"] * 27))
        self.assertEqual(desk.say("lines"), "27")


class LikeTheSale(unittest.TestCase):
    def test_its_sale_is_one_of_the_house(self):
        desk, answers = said(ROUNDS)
        sale = Sale(HOUSE)
        for bundles in (((2, 1), (1, 1)), ((2, 0), (1, 1)), ((1, 0), (1, 1))):
            for name, bundle in zip(("ann", "bob"), bundles):
                sale.tell(name, bundle)
            sale.bell()
        self.assertEqual(desk.say("lines"), str(len(sale)))
        self.assertEqual(desk.say("prices"), "9 4")
        self.assertEqual(sale.prices(), (9, 4))


if __name__ == "__main__":
    unittest.main()
