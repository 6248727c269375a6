"""The refusals of the program, one class each, with the fields that they are asked by."""

from bundleclocks.limits import SEALED


def copied(thing):
    """The same thing with new lists, however deep they lie in it."""
    # A refused thing may be any thing: an error that kept the very list would change when its owner changes it.
    if isinstance(thing, list):
        return [copied(part) for part in thing]
    if isinstance(thing, tuple):
        return tuple([copied(part) for part in thing])
    return thing


class NoHouse(TypeError):
    """The kinds or the bidders of a house are not as told."""

    def __init__(self, part, place):
        TypeError.__init__(self, "these kinds and bidders make no house")
        self.part = part
        self.place = place


class NoBidder(KeyError):
    """The house has no bidder of that name."""

    def __init__(self, name):
        KeyError.__init__(self, "no bidder has this name")
        self.name = copied(name)


class NoBundle(ValueError):
    """What was told is no bundle that can be had here."""

    def __init__(self, bundle):
        ValueError.__init__(self, "this is no bundle of the sale")
        self.bundle = copied(bundle)


class NoPhase(RuntimeError):
    """The sale is at another phase than the deed or the question needs."""

    def __init__(self, now):
        RuntimeError.__init__(self, "the sale is at another phase")
        self.now = now


class NoPoints(ArithmeticError):
    """The bundle has more points than the bidder."""

    def __init__(self, have, want):
        ArithmeticError.__init__(self, "the bundle has more points than the bidder")
        self.have = have
        self.want = want


class NoWorths(ValueError):
    """A ring bars all worths."""

    def __init__(self, ring):
        ValueError.__init__(self, "a ring bars all worths")
        self.ring = ring


class NotAll(LookupError):
    """Some bidders have not told in this round."""

    def __init__(self, names):
        LookupError.__init__(self, "not all bidders have told in this round")
        self.names = names


class NoLast(LookupError):
    """The bundle told last is to be sealed ahead of others."""

    def __init__(self, bundle):
        LookupError.__init__(self, "the bundle told last is to be sealed first")
        self.bundle = bundle


class NoMoney(ValueError):
    """The money is less than can be sealed for the bundle."""

    def __init__(self, least):
        ValueError.__init__(self, "the money is too little")
        self.least = least


class TooMany(OverflowError):
    """As many other bundles are sealed as may be."""

    def __init__(self, limit=SEALED):
        OverflowError.__init__(self, "no further bundle may be sealed")
        self.limit = limit


class NoChoice(ValueError):
    """What was told is no choice of the bids."""

    def __init__(self, place):
        ValueError.__init__(self, "this is no choice of the bids")
        self.place = place


class NoRow(RuntimeError):
    """What was told is no row of the desk."""

    def __init__(self, row):
        RuntimeError.__init__(self, "this is no row of the desk")
        self.row = copied(row)


class NoLine(IndexError):
    """The book has no line at that place."""

    def __init__(self, at, lines):
        IndexError.__init__(self, "the book has no line at this place")
        self.at = at
        self.lines = lines
