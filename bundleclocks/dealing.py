"""The best dealing of the pieces among the bids, and a table which shows that no choice brings more."""

from bundleclocks.bundles import is_within, within
from bundleclocks.errors import NoChoice
from bundleclocks.forms import is_tuple_of, is_whole, is_whole_between


def left_of(whole, bundle):
    """What is left of the whole when the bundle, which is within it, is taken away."""
    return tuple([many - few for many, few in zip(whole, bundle)])


def brings(amounts, bids, choice):
    """The sum of the money of the choice's bids; the choice is any thing."""
    if not is_tuple_of(choice, len(bids), len(bids)):
        raise NoChoice(None)
    left = amounts
    total = 0
    for bidder, (row, place) in enumerate(zip(bids, choice)):
        if place is None:
            continue
        if not is_whole_between(place, 0, len(row) - 1):
            raise NoChoice(bidder)
        bundle, money = row[place]
        if not is_within(bundle, left):
            raise NoChoice(bidder)
        left = left_of(left, bundle)
        total += money
    return total


def fits_of(amounts, row):
    """For each bundle within the amounts, in their order, the row's bids that are within it: each as its place, its
    money, and the place in that order of what it leaves."""
    bundles = within(amounts)
    places = {bundle: at for at, bundle in enumerate(bundles)}
    return [
        [(place, money, places[left_of(whole, bundle)]) for place, (bundle, money) in enumerate(row)
         if is_within(bundle, whole)]
        for whole in bundles
    ]


def layer_above(fits, lower):
    """The most that one bidder more brings out of each bundle, where those behind bring what the lower layer has."""
    return tuple([
        max([lower[at]] + [money + lower[left] for place, money, left in some]) for at, some in enumerate(fits)
    ])


def best_table(amounts, bids):
    """The least table that there is: what the bidders from each one on can bring out of each bundle."""
    layers = [tuple([0 for bundle in within(amounts)])]
    for row in reversed(bids):
        layers.append(layer_above(fits_of(amounts, row), layers[-1]))
    return tuple(reversed(layers))


def first_best(some, most, lower):
    """The first of the bids that fit which brings the most with those behind, as (place, what it leaves), or None."""
    for place, money, left in some:
        if money + lower[left] == most:
            return (place, left)
    return None


def best(amounts, bids):
    """The choice that brings the most, of several such the first."""
    table = best_table(amounts, bids)
    at = len(table[0]) - 1
    choice = []
    for bidder, row in enumerate(bids):
        taken = first_best(fits_of(amounts, row)[at], table[bidder][at], table[bidder + 1])
        # None stands behind all places, so a bidder goes without only where every fitting bid brings less.
        place, at = (None, at) if taken is None else taken
        choice.append(place)
    return tuple(choice)


def is_table(thing, many, size):
    """Whether it is a tuple of so many tuples of so many whole numbers each."""
    if not is_tuple_of(thing, many, many):
        return False
    return all([is_tuple_of(layer, size, size) and all([is_whole(part) for part in layer]) for layer in thing])


def shows(amounts, bids, table):
    """The bound that the table, any thing, shows; None where it shows none."""
    if not is_table(table, len(bids) + 1, len(within(amounts))):
        return None
    if min(table[-1]) < 0:
        return None
    for bidder, row in enumerate(bids):
        least = layer_above(fits_of(amounts, row), table[bidder + 1])
        if not all([high >= low for high, low in zip(table[bidder], least)]):
            return None
    return table[0][-1]
