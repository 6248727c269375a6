"""Sales: the clock, the sealed bids behind it, and how it is settled."""

from bundleclocks.bounds import bounds
from bundleclocks.bundles import cost, is_within, points_of, together
from bundleclocks.dealing import best
from bundleclocks.errors import (
    NoBundle, NoLast, NoLine, NoMoney, NoPhase, NoPoints, NotAll, NoWorths, TooMany,
)
from bundleclocks.forms import is_bundle
from bundleclocks.limits import ROUNDS, SEALED
from bundleclocks.lowering import lowered
from bundleclocks.worths import worths

# The phases of a sale, in order.
AT_CLOCK = "clock"
AT_SEALED = "sealed"
AT_DONE = "done"


def put(row, at, thing):
    """The tuple with the thing at that place in the stead of what stood there."""
    return row[:at] + (thing,) + row[at + 1:]


def check_bundle(bundle, amounts):
    """Refuses what is no bundle within the amounts."""
    if not is_bundle(bundle, len(amounts)) or not is_within(bundle, amounts):
        raise NoBundle(bundle)


def check_points(have, want):
    """Refuses a bundle of more points than there are."""
    if want > have:
        raise NoPoints(have, want)


def check_worths(rounds, sealed, kinds):
    """Refuses rounds and sealed bids that no worths stand behind."""
    word, shown = worths(rounds, sealed, kinds=kinds)
    if word == "ring":
        raise NoWorths(shown)


def check_sealing(bundle, money, last, moneys):
    """Refuses a bid that the last told bundle, the count of sealed ones or their moneys don't let."""
    if any(last) and last not in moneys and last != bundle:
        raise NoLast(last)
    if len([other for other in moneys if other != bundle]) >= SEALED:
        raise TooMany(SEALED)
    least = moneys[bundle] + 1 if bundle in moneys else 0
    if money < least:
        raise NoMoney(least)


def bids_of(rounds, sealed):
    """The bids that ended rounds and sealed bids come to."""
    moneys = {}
    for prices, bundle in rounds:
        if any(bundle):
            moneys[bundle] = max(moneys.get(bundle, 0), cost(prices, bundle))
    # A key that is there keeps its place, so sealed money stands where its bundle was first told.
    for bundle, money in sealed:
        moneys[bundle] = money
    return tuple(moneys.items())


class Sale:
    """A sale of a house. All that it keeps are numbers, texts and tuples, so what it tells can't be changed."""

    def __init__(self, house, *, rounds=ROUNDS):
        self.own_house = house
        self.most_rounds = rounds
        self.now_phase = AT_CLOCK
        self.now_turn = 1
        self.now_prices = house.prices()
        # Bidder by bidder, in the house's order.
        self.now_points = tuple([points for name, points in house.bidders()])
        self.now_told = tuple([None for bidder in house.bidders()])
        self.past_rounds = tuple([() for bidder in house.bidders()])
        self.sealed_bids = tuple([() for bidder in house.bidders()])
        self.told_lines = ()
        self.told_log = ()
        self.busy = False
        # (choice, payments, lowering) when done.
        self.outcome = None

    def house(self):
        """The house of the sale."""
        return self.own_house

    def phase(self):
        """At which phase it is: "clock", "sealed", then "done"."""
        return self.now_phase

    def turn(self):
        """The round's number, behind the clock the last one's."""
        return self.now_turn

    def prices(self):
        """The prices, kind by kind."""
        return self.now_prices

    def points(self, name):
        """The points that the bidder has."""
        return self.now_points[self.own_house.place_of(name)]

    def told(self, name):
        """The bundle that the bidder told in this round, behind the clock in the last one; None where there is none."""
        return self.now_told[self.own_house.place_of(name)]

    def is_busy(self):
        """Whether a def is being asked."""
        return self.busy

    def log(self):
        """The "begin" and "end" of each time that a def was asked."""
        return list(self.told_log)

    def check_phase(self, phase):
        """Refuses what needs another phase than there is."""
        if self.now_phase != phase:
            raise NoPhase(self.now_phase)

    def points_wanted(self, bundle):
        """The points of the bundle's pieces, summed."""
        return points_of(self.own_house.points(), bundle)

    def tell(self, name, bundle):
        """Tells the bidder's bundle for the round."""
        self.check_phase(AT_CLOCK)
        place = self.own_house.place_of(name)
        amounts = self.own_house.amounts()
        check_bundle(bundle, amounts)
        check_points(self.now_points[place], self.points_wanted(bundle))
        check_worths(self.past_rounds[place] + ((self.now_prices, bundle),), (), len(amounts))
        self.now_told = put(self.now_told, place, bundle)
        self.told_lines += (("tell", name, bundle),)

    def tell_by(self, asked):
        """Tells for each bidder, in order, the bundle that the def tells for the name and the prices; all or none."""
        self.check_phase(AT_CLOCK)
        told = self.now_told
        lines = self.told_lines
        done = None
        self.told_log += ("begin",)
        self.busy = True
        try:
            for name, points in self.own_house.bidders():
                self.tell(name, asked(name, self.now_prices))
            done = True
        finally:
            if done is None:
                self.now_told, self.told_lines = told, lines
            self.busy = False
            self.told_log += ("end",)

    def bell(self):
        """Ends the round, and tells how: "on", "cleared" or "late"."""
        self.check_phase(AT_CLOCK)
        rows = list(zip(self.own_house.bidders(), self.now_told))
        silent = tuple([name for (name, points), bundle in rows if bundle is None])
        if silent:
            raise NotAll(silent)
        amounts = self.own_house.amounts()
        wanted = together(list(self.now_told), kinds=len(amounts))
        over = [many > amount for many, amount in zip(wanted, amounts)]
        word = self.word_of(over)
        self.end_round()
        if word == "on":
            self.begin_round(over)
        else:
            self.now_phase = AT_SEALED
        self.told_lines += (("bell", word),)
        return word

    def word_of(self, over):
        """What the bell tells, where over says of which kinds more is told than there is."""
        if not any(over):
            return "cleared"
        return "on" if self.now_turn < self.most_rounds else "late"

    def end_round(self):
        """Puts what was told to the ended rounds; its points are what each one has from here on."""
        self.past_rounds = tuple([
            past + ((self.now_prices, bundle),) for past, bundle in zip(self.past_rounds, self.now_told)
        ])
        self.now_points = tuple([self.points_wanted(bundle) for bundle in self.now_told])

    def begin_round(self, over):
        """A new round, nobody having told, the prices higher where more was told than there is."""
        steps = [step if up else 0 for step, up in zip(self.own_house.steps(), over)]
        self.now_prices = tuple([price + step for price, step in zip(self.now_prices, steps)])
        self.now_told = tuple([None for bundle in self.now_told])
        self.now_turn += 1

    def seal(self, name, bundle, *, money=0):
        """Seals the bidder's money for the bundle, in the stead of less money for the same one."""
        self.check_phase(AT_SEALED)
        place = self.own_house.place_of(name)
        amounts = self.own_house.amounts()
        check_bundle(bundle, amounts)
        if not any(bundle):
            raise NoBundle(bundle)
        # The points at first, not those of the last bundle.
        check_points(self.own_house.bidders()[place][1], self.points_wanted(bundle))
        moneys = dict(self.sealed_bids[place])
        check_sealing(bundle, money, self.now_told[place], moneys)
        moneys[bundle] = money
        sealed = tuple(moneys.items())
        check_worths(self.past_rounds[place], sealed, len(amounts))
        self.sealed_bids = put(self.sealed_bids, place, sealed)
        self.told_lines += (("seal", name, bundle, money),)

    def history(self, name):
        """(rounds, sealed) of the bidder: the rounds that have ended, and the sealed bids as they were first sealed."""
        place = self.own_house.place_of(name)
        return (self.past_rounds[place], self.sealed_bids[place])

    def bids(self, name):
        """The bidder's bids: what stood told as rounds ended, and behind it what else is sealed."""
        rounds, sealed = self.history(name)
        return bids_of(rounds, sealed)

    def bounds_for(self, name, bundle):
        """(least, greatest) that the bundle can be worth by the bidder's history."""
        rounds, sealed = self.history(name)
        check_bundle(bundle, self.own_house.amounts())
        return bounds(bundle, rounds, sealed)

    def settle(self):
        """Settles the sale by the best choice of the bids, and lowered payments."""
        self.check_phase(AT_SEALED)
        amounts = self.own_house.amounts()
        bids = tuple([self.bids(name) for name, points in self.own_house.bidders()])
        choice = best(amounts, bids)
        payments, rounds = lowered(amounts, bids, choice)
        self.outcome = (choice, payments, rounds)
        self.now_phase = AT_DONE
        self.told_lines += (("settle", choice, payments),)

    def choice(self):
        """The best choice of the bids."""
        self.check_phase(AT_DONE)
        return self.outcome[0]

    def payments(self):
        """What each one pays."""
        self.check_phase(AT_DONE)
        return self.outcome[1]

    def lowering(self):
        """The rounds by which the payments came down."""
        self.check_phase(AT_DONE)
        return self.outcome[2]

    def book(self):
        """A line for each deed that was done."""
        return self.told_lines

    def line(self, at=-1):
        """The line of the book at that place, from 0 on, or from its end on by -1, -2 and so on."""
        many = len(self.told_lines)
        if not -many <= at < many:
            raise NoLine(at, many)
        return self.told_lines[at]

    def __eq__(self, other):
        if not isinstance(other, Sale):
            return False
        if self.own_house != other.own_house or self.most_rounds != other.most_rounds:
            return False
        return self.told_lines == other.told_lines

    def __len__(self):
        return len(self.told_lines)
