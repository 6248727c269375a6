"""Bundles: tuples that tell how many pieces of each kind there are."""


def cost(prices, bundle):
    """The sum of each price times how many pieces of its kind the bundle has."""
    return sum([price * many for price, many in zip(prices, bundle)])


def points_of(points, bundle):
    """The points of all pieces of the bundle, summed."""
    return cost(points, bundle)


def together(some, *, kinds):
    """The sum of the bundles, kind by kind; of no bundles it is nothing, of so many kinds."""
    return tuple([sum([bundle[kind] for bundle in some]) for kind in range(kinds)])


def is_within(one, other):
    """Whether the one has at most as many pieces of each kind as the other."""
    return all([few <= many for few, many in zip(one, other)])


def within(amounts):
    """All bundles within the amounts, in the order of tuples, nothing first."""
    heads = [()]
    for amount in amounts:
        heads = [head + (many,) for head in heads for many in range(amount + 1)]
    return heads
