"""A sale told again, deed by deed, by sums that owe the program nothing (points 10 to 18); and deeds to try on both."""

import random

from bundleclocks.houses import House
from bundleclocks.sales import Sale
from sums import (
    TWENTY, bounds_again, bundles_again, first_best_again, is_barred, lowered_again, price_of, ring_faults,
)

FIELDS = {
    "NoBidder": ("name",), "NoBundle": ("bundle",), "NoPhase": ("now",), "NoPoints": ("have", "want"),
    "NoWorths": ("ring",), "NotAll": ("names",), "NoLast": ("bundle",), "NoMoney": ("least",), "TooMany": ("limit",),
    "NoLine": ("at", "lines"), "NoRow": ("row",), "NoChoice": ("place",),
}
NO_NAMES = (None, True, 0, 5, "", "Ann", "zed", "ann ", " ", ("ann",), ["ann"], [], (), "a" * 400)


def refusal(call):
    """(class, fields) of the refusal that the call makes, None where it makes none."""
    try:
        call()
    except Exception as error:
        name = type(error).__name__
        return (name, tuple([getattr(error, field) for field in FIELDS.get(name, ())]))
    return None


class Refused(Exception):
    """word, fields: as the error told of in the interface; of NoWorths the fields are the rounds and sealed bids."""

    def __init__(self, word, *fields):
        super().__init__(word)
        self.word = word
        self.fields = fields


class Again:
    """Everything of the sale is asked by the names of its values; its deeds are called like the sale's."""

    def __init__(self, house, rounds=6):
        self.rows = house.bidders()
        self.names = [name for name, points in self.rows]
        self.first_points = dict(self.rows)
        self.amounts = tuple([kind[1] for kind in house.kinds()])
        self.prices = tuple([kind[2] for kind in house.kinds()])
        self.steps = tuple([kind[3] for kind in house.kinds()])
        self.piece_points = tuple([kind[4] for kind in house.kinds()])
        self.rounds = rounds
        self.phase, self.turn, self.log = "clock", 1, []
        self.points = dict(self.first_points)
        self.told = dict.fromkeys(self.names)
        self.past = {name: () for name in self.names}
        self.sealed = {name: () for name in self.names}
        self.book = ()
        self.outcome = None

    def need(self, phase):
        if self.phase != phase:
            raise Refused("NoPhase", self.phase)

    def need_name(self, name):
        if type(name) is not str or name not in self.names:
            raise Refused("NoBidder", name)

    def need_bundle(self, bundle):
        whole = type(bundle) is tuple and [type(many) for many in bundle] == [int] * len(self.amounts)
        if not whole or bundle not in bundles_again(self.amounts):
            raise Refused("NoBundle", bundle)

    def need_points(self, have, bundle):
        want = price_of(self.piece_points, bundle)
        if want > have:
            raise Refused("NoPoints", have, want)

    def need_worths(self, rounds, sealed):
        if is_barred(rounds, sealed, len(self.amounts)):
            raise Refused("NoWorths", rounds, sealed)

    def tell(self, name, bundle):
        self.need("clock")
        self.need_name(name)
        self.need_bundle(bundle)
        self.need_points(self.points[name], bundle)
        self.need_worths(self.past[name] + ((self.prices, bundle),), ())
        self.told[name] = bundle
        self.book += (("tell", name, bundle),)

    def tell_by(self, asked):
        self.need("clock")
        kept = (dict(self.told), self.book)
        self.log += ["begin", "end"]
        try:
            for name in self.names:
                self.tell(name, asked(name, self.prices))
        except Refused:
            self.told, self.book = kept
            raise

    def bell(self):
        self.need("clock")
        silent = tuple([name for name in self.names if self.told[name] is None])
        if silent:
            raise Refused("NotAll", silent)
        for name in self.names:
            self.past[name] += ((self.prices, self.told[name]),)
            self.points[name] = price_of(self.piece_points, self.told[name])
        over = [sum([bundle[kind] for bundle in self.told.values()]) > amount
                for kind, amount in enumerate(self.amounts)]
        word = "cleared" if True not in over else "late" if self.turn == self.rounds else "on"
        if word == "on":
            self.prices = tuple([self.prices[kind] + self.steps[kind] * over[kind] for kind in range(len(over))])
            self.told = dict.fromkeys(self.names)
            self.turn += 1
        else:
            self.phase = "sealed"
        self.book += (("bell", word),)
        return word

    def seal(self, name, bundle, money=0):
        self.need("sealed")
        self.need_name(name)
        self.need_bundle(bundle)
        if max(bundle) == 0:
            raise Refused("NoBundle", bundle)
        self.need_points(self.first_points[name], bundle)
        sealed, last = [one for one, bid in self.sealed[name]], self.told[name]
        if max(last) > 0 and last not in sealed and last != bundle:
            raise Refused("NoLast", last)
        if bundle not in sealed and len(sealed) == 8:
            raise Refused("TooMany", 8)
        least = self.sealed[name][sealed.index(bundle)][1] + 1 if bundle in sealed else 0
        if money < least:
            raise Refused("NoMoney", least)
        if bundle in sealed:
            bids = tuple([(one, money if one == bundle else bid) for one, bid in self.sealed[name]])
        else:
            bids = self.sealed[name] + ((bundle, money),)
        self.need_worths(self.past[name], bids)
        self.sealed[name] = bids
        self.book += (("seal", name, bundle, money),)

    def bids(self, name):
        told = [bundle for prices, bundle in self.past[name] if max(bundle) > 0]
        order = sorted(set(told), key=told.index)
        sealed = dict(self.sealed[name])
        bids = []
        for bundle in order:
            costs = [price_of(prices, bundle) for prices, other in self.past[name] if other == bundle]
            bids.append((bundle, sealed[bundle] if bundle in sealed else max(costs)))
        return tuple(bids) + tuple([bid for bid in self.sealed[name] if bid[0] not in order])

    def bounds_for(self, name, bundle):
        self.need_name(name)
        self.need_bundle(bundle)
        return bounds_again(bundle, self.past[name], self.sealed[name])

    def settle(self):
        self.need("sealed")
        bids = tuple([self.bids(name) for name in self.names])
        choice = first_best_again(self.amounts, bids)
        self.outcome = (choice,) + lowered_again(self.amounts, bids, choice)
        self.phase = "done"
        self.book += (("settle",) + self.outcome[:2],)


def seen(sale):
    """All that a sale answers when it is asked, as one text."""
    names = [name for name, points in sale.house().bidders()]
    own = [(sale.points(name), sale.told(name), sale.history(name), sale.bids(name)) for name in names]
    done = [refusal(ask) or ask() for ask in (sale.choice, sale.payments, sale.lowering)]
    return repr((sale.phase(), sale.turn(), sale.prices(), own, sale.is_busy(), sale.log(), sale.book(), len(sale),
                 done))


def seen_again(model):
    """The same of the model."""
    own = [(model.points[name], model.told[name], (model.past[name], model.sealed[name]), model.bids(name))
           for name in model.names]
    done = list(model.outcome) if model.phase == "done" else [("NoPhase", (model.phase,))] * 3
    return repr((model.phase, model.turn, model.prices, own, False, model.log, model.book, len(model.book), done))


def deed_faults(sale, model, deed):
    """Does the deed, a tuple of the method's name, arguments and keywords, at both: all by which they differ."""
    word, arguments, named = deed
    told = wrong = error = None
    try:
        expected = getattr(model, word)(*arguments, **named)
    except Refused as refused:
        expected, wrong = None, refused
    try:
        told = getattr(sale, word)(*arguments, **named)
    except Exception as refused:
        error = refused
    faults = []
    if wrong is None and error is None:
        faults += [] if repr(told) == repr(expected) else [(deed, told, expected)]
    elif wrong is None or error is None or type(error).__name__ != wrong.word:
        faults.append((deed, error, wrong))
    elif wrong.word == "NoWorths":
        faults += ring_faults(error.ring, *wrong.fields, len(model.amounts))
    elif repr([getattr(error, field) for field in FIELDS[wrong.word]]) != repr(list(wrong.fields)):
        faults.append((deed, vars(error), wrong.fields))
    return faults if seen(sale) == seen_again(model) else faults + [(deed, seen(sale), seen_again(model))]


def random_house(rng):
    words = ["wood", "coal", "salt", "ann", "bob", "cid", "dot", "eve", "fay"]
    kinds = tuple([
        (word, rng.randint(1, 3), rng.choice((0, 1, 5, 30)), rng.randint(1, 9), rng.choice((0, 1, 1, 2)))
        for word in words[:rng.randint(1, 3)]
    ])
    bidders = tuple([(word, rng.choice((0, 3, 6, 99))) for word in words[3:3 + rng.randint(1, 6)]])
    return House(kinds, bidders)


def random_values(rng, house):
    """For each bidder what each bundle is worth to them: so they tell what no ring bars."""
    values = {}
    for name, points in house.bidders():
        worth_of = {bundle: rng.randint(0, 40) * sum(bundle) for bundle in bundles_again(house.amounts())}
        values[name] = worth_of
    return values


def wanted(worth_of, prices, most_points, piece_points):
    """The best bundle of those that the points let."""
    some = [bundle for bundle in sorted(worth_of) if price_of(piece_points, bundle) <= most_points]
    return max(some, key=lambda bundle: worth_of[bundle] - price_of(prices, bundle))


def random_bundle(rng, house):
    if rng.random() < 0.08:
        return rng.choice((None, True, (), [], 0, "1", (True,), (1, False), (-1, 0), (9,), (1, 0, 0, 0), [1], ((1,),)))
    return tuple([rng.randint(0, amount + (rng.random() < 0.05)) for amount in house.amounts()])


def random_deed(rng, model, house, values):
    """(method, arguments, keywords): mostly what may be done at the phase, sometimes anything."""
    name = rng.choice(model.names) if rng.random() < 0.95 else rng.choice(NO_NAMES)
    bundle = random_bundle(rng, house)
    if name in model.names and rng.random() < 0.8:
        bundle = wanted(values[name], model.prices, model.points[name], model.piece_points)
    turn = rng.random()
    if turn < 0.03:
        return (rng.choice(("settle", "bell")), (), {})
    if turn < 0.06:
        return ("bounds_for", (name, random_bundle(rng, house)), {})
    if model.phase == "clock":
        return random_clock_deed(rng, model, name, bundle, values)
    if turn < 0.1:
        return ("tell", (name, bundle), {})
    if turn < 0.16:
        return ("settle", (), {})
    return random_seal(rng, model, name, bundle)


def random_clock_deed(rng, model, name, bundle, values):
    silent = [name for name in model.names if model.told[name] is None]
    turn = rng.random()
    if not silent and turn < 0.7:
        return ("bell", (), {})
    if silent and turn < 0.5:
        name = silent[0]
        return ("tell", (name, wanted(values[name], model.prices, model.points[name], model.piece_points)), {})
    if turn < 0.75:
        told = {one: wanted(values[one], model.prices, model.points[one], model.piece_points) for one in model.names}
        if rng.random() < 0.4:
            told[rng.choice(model.names)] = bundle
        return ("tell_by", (lambda one, prices: told[one],), {})
    if turn < 0.78:
        return ("seal", (name, bundle), {"money": 3})
    return ("tell", (name, bundle), {})


def random_seal(rng, model, name, bundle):
    if name not in model.names:
        return ("seal", (name, bundle), {"money": rng.randint(0, 9)})
    last = model.told[name]
    if max(last) > 0 and last not in dict(model.sealed[name]) and rng.random() < 0.6:
        bundle = last
    else:
        bundle = rng.choice((bundle, rng.choice(bundles_again(model.amounts))))
    money = rng.choice((0, -1, rng.randint(0, 90), TWENTY))
    try:
        least, greatest = model.bounds_for(name, bundle)
        edge = least + 30 if greatest is None else greatest
        money = rng.choice((money, least, least, least - 1, edge, edge + 1, rng.randint(least, edge)))
    except Refused:
        pass
    return ("seal", (name, bundle), {"money": money} if money or rng.random() < 0.5 else {})


def random_walk(seed, deeds):
    """A sale and its model behind so many deeds, and all by which they ever differed."""
    rng = random.Random(seed)
    house = random_house(rng)
    values = random_values(rng, house)
    rounds = rng.choice((1, 2, 3, 6, 12))
    sale, model = Sale(house, rounds=rounds), Again(house, rounds)
    faults = []
    for turn in range(deeds):
        faults += deed_faults(sale, model, random_deed(rng, model, house, values))
        if faults or model.phase == "done" and rng.random() < 0.3:
            break
    return sale, model, faults
