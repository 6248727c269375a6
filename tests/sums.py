"""Points 6, 7 and 9 told again by sums that owe the program nothing; and rounds and sealed bids to ask them of."""

import random

# The smallest ring goes through all of these twelve rounds: without any one of them there are worths.
TWELVE_IN_A_RING = (
    ((41, 1282), (800, 400)), ((28, 764), (746, 600)), ((276, 310), (600, 746)), ((718, 41), (400, 800)),
    ((1236, 28), (200, 746)), ((1690, 276), (54, 600)), ((1959, 718), (0, 400)), ((1972, 1236), (54, 200)),
    ((1724, 1690), (200, 54)), ((1282, 1959), (400, 0)), ((764, 1972), (600, 54)), ((310, 1724), (746, 200)),
)
MILLION = 1000000
TWENTY = 99999999999999999999


def price_of(prices, bundle):
    total = 0
    for at in range(len(bundle)):
        total += prices[at] * bundle[at]
    return total


def told_again(rounds, sealed, kinds):
    every = [(0,) * kinds] + [row[1] for row in rounds] + [row[0] for row in sealed]
    return tuple(sorted(set(every), key=every.index))


def is_whole(thing):
    return type(thing) is int


def row_faults(row, rounds, sealed, kinds):
    """All by which the row fails to be the worths of point 6."""
    told = told_again(rounds, sealed, kinds)
    if type(row) is not tuple or [type(part) for part in row] != [tuple] * len(told):
        return ["no tuple of a tuple for each told bundle"]
    if tuple([bundle for bundle, worth in row]) != told:
        return ["not the told bundles in their order"]
    worth_of = dict(row)
    faults = [("no whole number from 0 on", row) for bundle, worth in row if not is_whole(worth) or worth < 0]
    if worth_of[told[0]] != 0:
        faults.append("nothing is worth something")
    faults += [("not its money", bid) for bid in sealed if worth_of[bid[0]] != bid[1]]
    for prices, best in rounds:
        for other in told:
            if worth_of[best] - price_of(prices, best) < worth_of[other] - price_of(prices, other):
                faults.append(("a better one", prices, best, other))
    return faults


def step_again(step, rounds, sealed, told):
    """(start, end, weight) of a step as point 7 tells it; fails where it is none."""
    word, place, bundle = step
    assert type(step) is tuple and type(bundle) is tuple and is_whole(place), step
    assert bundle in told, step
    nothing = told[0]
    if word == "round":
        assert 0 <= place < len(rounds), step
        prices, best = rounds[place]
        return (best, bundle, price_of(prices, bundle) - price_of(prices, best))
    if word == "free":
        assert place == 0, step
        return (bundle, nothing, 0)
    assert word in ("bid", "due") and 0 <= place < len(sealed) and sealed[place][0] == bundle, step
    if word == "bid":
        return (nothing, bundle, sealed[place][1])
    return (bundle, nothing, -sealed[place][1])


def ring_faults(ring, rounds, sealed, kinds):
    """All by which the ring fails to be one of point 7."""
    if type(ring) is not tuple or not 1 <= len(ring) <= 40:
        return ["no tuple of one to forty steps"]
    told = told_again(rounds, sealed, kinds)
    try:
        steps = [step_again(step, rounds, sealed, told) for step in ring]
    except (AssertionError, TypeError, ValueError) as error:
        return [("no step", error)]
    faults = [("leads elsewhere", at) for at in range(len(steps)) if steps[at - 1][1] != steps[at][0]]
    if sum([weight for start, end, weight in steps]) >= 0:
        faults.append("comes to no less than 0")
    return faults


def shortest_again(told, rounds, sealed):
    """For each two told bundles the least weight of a way from one to the other, by trying each bundle between."""
    ways = {(one, other): None for one in told for other in told}

    def take(one, other, weight):
        if ways[one, other] is None or weight < ways[one, other]:
            ways[one, other] = weight

    for bundle in told:
        take(bundle, bundle, 0)
        take(bundle, told[0], 0)
        for prices, best in rounds:
            take(best, bundle, price_of(prices, bundle) - price_of(prices, best))
    for bundle, money in sealed:
        take(told[0], bundle, money)
        take(bundle, told[0], -money)
    for between in told:
        for one in told:
            for other in told:
                if ways[one, between] is not None and ways[between, other] is not None:
                    take(one, other, ways[one, between] + ways[between, other])
    return ways


def is_barred(rounds, sealed, kinds):
    told = told_again(rounds, sealed, kinds)
    ways = shortest_again(told, rounds, sealed)
    return any([ways[bundle, bundle] < 0 for bundle in told])


def bounds_again(bundle, rounds, sealed):
    """The least and the greatest worth, with the bundle put behind the told ones; there are to be worths."""
    told = told_again(rounds, sealed + ((bundle, None),), len(bundle))
    ways = shortest_again(told, rounds, sealed)
    return (-ways[bundle, told[0]], ways[told[0], bundle])


def rounds_of_worths(rng, kinds, many, worth_of, most_price):
    """Rounds of a bidder who tells a best one of the bundles that worth_of has."""
    rounds = []
    for turn in range(many):
        prices = tuple([rng.randint(0, most_price) for kind in range(kinds)])
        best = max(sorted(worth_of), key=lambda bundle: worth_of[bundle] - price_of(prices, bundle))
        rounds.append((prices, best))
    return tuple(rounds)


def random_cases(seed, many):
    """(rounds, sealed, kinds): by random bundles, or by those that a bidder with worths would tell."""
    rng = random.Random(seed)
    cases = []
    for turn in range(many):
        kinds = 1 + turn % 3
        most_price = rng.choice((2, 9, 60, MILLION))
        most_pieces = rng.choice((1, 2, 4))
        bundles = [tuple([rng.randint(0, most_pieces) for kind in range(kinds)]) for at in range(rng.randint(1, 14))]
        worth_of = {bundle: rng.randint(0, most_price * kinds * most_pieces) for bundle in bundles}
        worth_of[(0,) * kinds] = 0
        rounds = rounds_of_worths(rng, kinds, rng.randint(0, 12), worth_of, most_price)
        if rng.random() < 0.3:
            rounds = tuple([(prices, rng.choice(bundles)) for prices, best in rounds])
        sealed = [(bundle, worth) for bundle, worth in worth_of.items() if any(bundle) and rng.random() < 0.4]
        if rng.random() < 0.3:
            sealed = [(bundle, max(0, worth + rng.randint(-3, 3))) for bundle, worth in sealed]
        rng.shuffle(sealed)
        cases.append((rounds, tuple(sealed[:12]), kinds))
    return cases
