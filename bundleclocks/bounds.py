"""The least and the greatest that a bundle can be worth, by a bidder's rounds and sealed bids."""

from bundleclocks.errors import NoWorths
from bundleclocks.worths import arcs_of, shortest_ways, told_bundles, worths


def greatest_worth(bundle, rounds, sealed):
    """The weight of the shortest way from nothing to the bundle, None where no way leads there."""
    told = told_bundles(rounds, sealed, kinds=len(bundle))
    if bundle not in told:
        told = told + (bundle,)
    ways, lasts, found = shortest_ways(told, arcs_of(told, rounds, sealed))
    return ways.get(bundle)


def bounds(bundle, rounds, sealed=()):
    """(least, greatest) that the bundle can be worth, None as the greatest where there is no greatest one."""
    word, shown = worths(rounds, sealed, kinds=len(bundle))
    if word == "ring":
        raise NoWorths(shown)
    # The row has the least worths. From a bundle that isn't told the free step alone leads on, so 0 is its least;
    # and it bars nothing, as the told nothing already asks that each round's bundle be worth its cost.
    least = dict(shown).get(bundle, 0)
    return (least, greatest_worth(bundle, rounds, sealed))
