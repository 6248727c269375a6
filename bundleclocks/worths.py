"""Worths that stand behind a bidder's rounds and sealed bids, or a ring of steps that bars all worths."""

from bundleclocks.bundles import cost, together


def told_bundles(rounds, sealed=(), *, kinds):
    """Nothing, the rounds' bundles and the sealed ones, in order, each once."""
    bundles = [bundle for prices, bundle in rounds] + [bundle for bundle, money in sealed]
    told = [together([], kinds=kinds)]
    for bundle in bundles:
        if bundle not in told:
            told.append(bundle)
    return tuple(told)


def weight(step, rounds, sealed):
    """By how much the worth may go up along the step, at the most."""
    word, place, bundle = step
    if word == "round":
        prices, best = rounds[place]
        return cost(prices, bundle) - cost(prices, best)
    if word == "bid":
        return sealed[place][1]
    if word == "due":
        return -sealed[place][1]
    return 0


def ends(step, rounds):
    """The bundle that the step leads from, and the one that it leads to."""
    word, place, bundle = step
    nothing = together([], kinds=len(bundle))
    if word == "round":
        return (rounds[place][1], bundle)
    if word == "bid":
        return (nothing, bundle)
    return (bundle, nothing)


def steps_of(told, rounds, sealed):
    """All steps that there are between the told bundles."""
    steps = [("free", 0, bundle) for bundle in told]
    steps += [(word, place, sealed[place][0]) for place in range(len(sealed)) for word in ("bid", "due")]
    return steps + [("round", place, bundle) for place in range(len(rounds)) for bundle in told]


def arcs_of(told, rounds, sealed):
    """All these steps, each with where it leads from, where to, and its weight: (start, end, by, step)."""
    return [ends(step, rounds) + (weight(step, rounds, sealed), step) for step in steps_of(told, rounds, sealed)]


def shorten(arcs, ways, lasts):
    """Lets each arc shorten the way to its end, where it can; tells the last such end, None where there is none."""
    found = None
    for arc in arcs:
        start, end, by, step = arc
        if start in ways and (end not in ways or ways[start] + by < ways[end]):
            ways[end] = ways[start] + by
            lasts[end] = arc
            found = end
    return found


def shortest_ways(told, arcs):
    """The weights of the shortest ways from nothing to the bundles that can be come to, the last arcs of these ways,
    and a bundle whose way gets shorter without end, None where there is none."""
    ways = {told[0]: 0}
    lasts = {}
    found = None
    # A way that comes to no bundle twice has fewer arcs than there are bundles: what gets shorter even in the last
    # turn goes through a ring.
    for turn in range(len(told)):
        found = shorten(arcs, ways, lasts)
        if found is None:
            break
    return (ways, lasts, found)


def ring_behind(bundle, lasts):
    """The steps of the ring that the way to the bundle comes from, gone back from arc to arc."""
    at = bundle
    # The bundle itself may lie outside of the ring; so many arcs back is surely within.
    for turn in range(len(lasts)):
        at = lasts[at][0]
    first = at
    ring = []
    while not ring or at != first:
        ring.append(lasts[at][3])
        at = lasts[at][0]
    return tuple(ring)


def worths(rounds, sealed=(), *, kinds):
    """("worths", row) of (told bundle, worth), the least worths that there are, or ("ring", ring) that bars all."""
    told = told_bundles(rounds, sealed, kinds=kinds)
    # Turned about, the arcs lead from nothing to every bundle, by its free step at least, and the weight of the
    # shortest way times -1 is the least that the bundle must be worth. A ring that is gone back over turned arcs
    # has its steps in their own order.
    turned = [(end, start, by, step) for start, end, by, step in arcs_of(told, rounds, sealed)]
    ways, lasts, found = shortest_ways(told, turned)
    if found is not None:
        return ("ring", ring_behind(found, lasts))
    return ("worths", tuple([(bundle, -ways[bundle]) for bundle in told]))
