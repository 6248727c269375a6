"""Points 6, 7, 9 and 19 to 24 told again by sums that owe the program nothing; and inputs to ask them of."""

import random
from fractions import Fraction
from itertools import combinations, product

# The smallest ring goes through all of these twelve rounds: without any one of them there are worths.
TWELVE_IN_A_RING = (
    ((41, 1282), (800, 400)), ((28, 764), (746, 600)), ((276, 310), (600, 746)), ((718, 41), (400, 800)),
    ((1236, 28), (200, 746)), ((1690, 276), (54, 600)), ((1959, 718), (0, 400)), ((1972, 1236), (54, 200)),
    ((1724, 1690), (200, 54)), ((1282, 1959), (400, 0)), ((764, 1972), (600, 54)), ((310, 1724), (746, 200)),
)
MILLION = 1000000
TWENTY = 99999999999999999999


def price_of(prices, bundle):
    total = 0
    for at in range(len(bundle)):
        total += prices[at] * bundle[at]
    return total


def told_again(rounds, sealed, kinds):
    every = [(0,) * kinds] + [row[1] for row in rounds] + [row[0] for row in sealed]
    return tuple(sorted(set(every), key=every.index))


def is_whole(thing):
    return type(thing) is int


def row_faults(row, rounds, sealed, kinds):
    """All by which the row fails to be the worths of point 6."""
    told = told_again(rounds, sealed, kinds)
    if type(row) is not tuple or [type(part) for part in row] != [tuple] * len(told):
        return ["no tuple of a tuple for each told bundle"]
    if tuple([bundle for bundle, worth in row]) != told:
        return ["not the told bundles in their order"]
    worth_of = dict(row)
    faults = [("no whole number from 0 on", row) for bundle, worth in row if not is_whole(worth) or worth < 0]
    if worth_of[told[0]] != 0:
        faults.append("nothing is worth something")
    faults += [("not its money", bid) for bid in sealed if worth_of[bid[0]] != bid[1]]
    for prices, best in rounds:
        for other in told:
            if worth_of[best] - price_of(prices, best) < worth_of[other] - price_of(prices, other):
                faults.append(("a better one", prices, best, other))
    return faults


def step_again(step, rounds, sealed, told):
    """(start, end, weight) of a step as point 7 tells it; fails where it is none."""
    word, place, bundle = step
    assert type(step) is tuple and type(bundle) is tuple and is_whole(place), step
    assert bundle in told, step
    nothing = told[0]
    if word == "round":
        assert 0 <= place < len(rounds), step
        prices, best = rounds[place]
        return (best, bundle, price_of(prices, bundle) - price_of(prices, best))
    if word == "free":
        assert place == 0, step
        return (bundle, nothing, 0)
    assert word in ("bid", "due") and 0 <= place < len(sealed) and sealed[place][0] == bundle, step
    if word == "bid":
        return (nothing, bundle, sealed[place][1])
    return (bundle, nothing, -sealed[place][1])


def ring_faults(ring, rounds, sealed, kinds):
    """All by which the ring fails to be one of point 7."""
    if type(ring) is not tuple or not 1 <= len(ring) <= 40:
        return ["no tuple of one to forty steps"]
    told = told_again(rounds, sealed, kinds)
    try:
        steps = [step_again(step, rounds, sealed, told) for step in ring]
    except (AssertionError, TypeError, ValueError) as error:
        return [("no step", error)]
    faults = [("leads elsewhere", at) for at in range(len(steps)) if steps[at - 1][1] != steps[at][0]]
    if sum([weight for start, end, weight in steps]) >= 0:
        faults.append("comes to no less than 0")
    return faults


def shortest_again(told, rounds, sealed):
    """For each two told bundles the least weight of a way from one to the other, by trying each bundle between."""
    ways = {(one, other): None for one in told for other in told}

    def take(one, other, weight):
        if ways[one, other] is None or weight < ways[one, other]:
            ways[one, other] = weight

    for bundle in told:
        take(bundle, bundle, 0)
        take(bundle, told[0], 0)
        for prices, best in rounds:
            take(best, bundle, price_of(prices, bundle) - price_of(prices, best))
    for bundle, money in sealed:
        take(told[0], bundle, money)
        take(bundle, told[0], -money)
    for between in told:
        for one in told:
            for other in told:
                if ways[one, between] is not None and ways[between, other] is not None:
                    take(one, other, ways[one, between] + ways[between, other])
    return ways


def is_barred(rounds, sealed, kinds):
    told = told_again(rounds, sealed, kinds)
    ways = shortest_again(told, rounds, sealed)
    return any([ways[bundle, bundle] < 0 for bundle in told])


def bounds_again(bundle, rounds, sealed):
    """The least and the greatest worth, with the bundle put behind the told ones; there are to be worths."""
    told = told_again(rounds, sealed + ((bundle, None),), len(bundle))
    ways = shortest_again(told, rounds, sealed)
    return (-ways[bundle, told[0]], ways[told[0], bundle])


def rounds_of_worths(rng, kinds, many, worth_of, most_price):
    """Rounds of a bidder who tells a best one of the bundles that worth_of has."""
    rounds = []
    for turn in range(many):
        prices = tuple([rng.randint(0, most_price) for kind in range(kinds)])
        best = max(sorted(worth_of), key=lambda bundle: worth_of[bundle] - price_of(prices, bundle))
        rounds.append((prices, best))
    return tuple(rounds)


def random_cases(seed, many):
    """(rounds, sealed, kinds): by random bundles, or by those that a bidder with worths would tell."""
    rng = random.Random(seed)
    cases = []
    for turn in range(many):
        kinds = 1 + turn % 3
        most_price = rng.choice((2, 9, 60, MILLION))
        most_pieces = rng.choice((1, 2, 4))
        bundles = [tuple([rng.randint(0, most_pieces) for kind in range(kinds)]) for at in range(rng.randint(1, 14))]
        worth_of = {bundle: rng.randint(0, most_price * kinds * most_pieces) for bundle in bundles}
        worth_of[(0,) * kinds] = 0
        rounds = rounds_of_worths(rng, kinds, rng.randint(0, 12), worth_of, most_price)
        if rng.random() < 0.3:
            rounds = tuple([(prices, rng.choice(bundles)) for prices, best in rounds])
        sealed = [(bundle, worth) for bundle, worth in worth_of.items() if any(bundle) and rng.random() < 0.4]
        if rng.random() < 0.3:
            sealed = [(bundle, max(0, worth + rng.randint(-3, 3))) for bundle, worth in sealed]
        rng.shuffle(sealed)
        cases.append((rounds, tuple(sealed[:12]), kinds))
    return cases


def bundles_again(amounts):
    """The bundles within the amounts, in the order of tuples."""
    return list(product(*[range(amount + 1) for amount in amounts]))


def taken_away(whole, bundle):
    """What is left of the whole, None where the bundle isn't within it."""
    left = tuple([many - few for many, few in zip(whole, bundle)])
    return None if min(left) < 0 else left


def choice_sum(amounts, bids, choice):
    """What the choice brings, None where it is none; its parts are places of bids, or None."""
    left, total = amounts, 0
    for row, place in zip(bids, choice):
        if place is not None:
            left = taken_away(left, row[place][0])
            if left is None:
                return None
            total += row[place][1]
    return total


def all_choices(amounts, bids):
    """Each choice with what it brings, by looking at all of them, in the order of point 19."""
    every = [list(range(len(row))) + [None] for row in bids]
    sums = [(choice, choice_sum(amounts, bids, choice)) for choice in product(*every)]
    return [(choice, total) for choice, total in sums if total is not None]


def best_by_look(amounts, bids):
    """The first of the choices that bring the most, and what it brings."""
    choices = all_choices(amounts, bids)
    most = max([total for choice, total in choices])
    return [(choice, total) for choice, total in choices if total == most][0]


def most_again(whole, bids, known=None):
    """The most that the bids can bring out of the whole, asked from the first bidder on."""
    known = {} if known is None else known
    if not bids:
        return 0
    if (whole, len(bids)) not in known:
        sums = [most_again(whole, bids[1:], known)]
        for bundle, money in bids[0]:
            left = taken_away(whole, bundle)
            if left is not None:
                sums.append(money + most_again(left, bids[1:], known))
        known[whole, len(bids)] = max(sums)
    return known[whole, len(bids)]


def bound_again(amounts, bids, table):
    """The bound that any thing shows by point 20, None where it shows none."""
    bundles = bundles_again(amounts)
    if type(table) is not tuple or [type(layer) for layer in table] != [tuple] * (len(bids) + 1):
        return None
    if any([[type(part) for part in layer] != [int] * len(bundles) for layer in table]):
        return None
    if any([part < 0 for part in table[-1]]):
        return None
    layers = [dict(zip(bundles, layer)) for layer in table]
    for bidder, row in enumerate(bids):
        for whole in bundles:
            if layers[bidder][whole] < layers[bidder + 1][whole]:
                return None
            for bundle, money in row:
                left = taken_away(whole, bundle)
                if left is not None and layers[bidder][whole] < money + layers[bidder + 1][left]:
                    return None
    return layers[0][amounts]


def sets_again(many):
    return [some for size in range(many + 1) for some in combinations(range(many), size)]


def set_worth_again(amounts, bids, some):
    return most_again(amounts, tuple([bids[place] for place in some]))


def set_worths_again(amounts, bids):
    return {some: set_worth_again(amounts, bids, some) for some in sets_again(len(bids))}


def won_again(bids, choice):
    return [0 if choice[place] is None else bids[place][choice[place]][1] for place in range(len(bids))]


def is_number(thing):
    """Whether it is a number of point 2."""
    if type(thing) is not tuple or [type(part) for part in thing] != [int, int] or thing[1] < 1:
        return False
    shown = Fraction(thing[0], thing[1])
    return (shown.numerator, shown.denominator) == thing


def over_worth(worth_of, won, paid):
    """By the set, by how much its worth is above what its bidders won and all others pay; paid are Fractions."""
    many = len(won)
    return {
        some: worth - sum([Fraction(won[at]) if at in some else paid[at] for at in range(many)])
        for some, worth in worth_of.items()
    }


def fractions_of(payments):
    return [Fraction(top, bottom) for top, bottom in payments]


def blocks_again(amounts, bids, choice, payments):
    """(set, Fraction) of the set that blocks by the most, of several the first, or None."""
    over = over_worth(set_worths_again(amounts, bids), won_again(bids, choice), fractions_of(payments))
    most = max(over.values())
    if most <= 0:
        return None
    return ([some for some in sets_again(len(bids)) if over[some] == most][0], most)


def lowered_faults(answer, amounts, bids, choice):
    """All by which the answer fails to be the payments and rounds of point 24."""
    if type(answer) is not tuple or len(answer) != 2 or type(answer[1]) is not tuple:
        return ["no tuple of payments and rounds"]
    payments, rounds = answer
    worth_of = set_worths_again(amounts, bids)
    won = won_again(bids, choice)
    paid = [Fraction(money) for money in won]
    moving = [place for place in range(len(bids)) if won[place] > 0]
    faults = []
    for told in rounds:
        if not moving:
            return faults + [("none moves", told)]
        paid, moving, more = round_faults(told, worth_of, won, paid, moving)
        faults += more
    if moving:
        faults.append(("some move still", moving))
    return faults + payment_faults(payments, paid)


def payment_faults(payments, paid):
    if type(payments) is not tuple or not all([is_number(payment) for payment in payments]):
        return [("no tuple of numbers", payments)]
    return [] if fractions_of(payments) == paid else [("other payments", payments, paid)]


def amount_again(worth_of, won, paid, moving):
    """The greatest amount, found as the least at which somebody comes to 0 or a set to the edge of blocking."""
    over = over_worth(worth_of, won, paid)
    edges = [paid[place] for place in moving]
    for some in worth_of:
        many = len(set(moving) - set(some))
        if many:
            edges.append(-over[some] / many)
    return min(edges)


def round_faults(told, worth_of, won, paid, moving):
    """The payments behind the round, those that move on, and all by which it fails to be one of point 24."""
    amount = amount_again(worth_of, won, paid, moving)
    after = [paid[place] - amount if place in moving else paid[place] for place in range(len(paid))]
    over = over_worth(worth_of, won, after)
    # A little less still: by this much, whatever is at its edge is beyond it, and nothing else is.
    little = Fraction(1, 10 ** 30)
    beyond = over_worth(worth_of, won, [after[at] - little if at in moving else after[at] for at in range(len(after))])
    sets = tuple([some for some in sets_again(len(paid)) if over[some] <= 0 < beyond[some]])
    stops = tuple([at for at in moving if after[at] == 0 or not all([at in some for some in sets])])
    on = [at for at in moving if at not in stops]
    if type(told) is not tuple or len(told) != 4:
        return after, on, [("no round", told)]
    faults = payment_faults(told[3], after)
    if not is_number(told[0]) or Fraction(*told[0]) != amount:
        faults.append(("another amount", told[0], amount))
    if repr(told[1:3]) != repr((sets, stops)):
        faults.append(("other sets or stops", told[1:3], sets, stops))
    if not stops or min(after) < 0 or max(over.values()) > 0:
        faults.append("these sums themselves are off")
    return after, on, faults


def random_money(rng, most):
    return rng.choice((0, 1, rng.randint(0, most), rng.randint(0, most), TWENTY if most == MILLION else most))


def random_bids(seed, many, most_bidders=6, most_bids=20):
    """(amounts, bids): few kinds of money and bundles for many ties, or all kinds of them."""
    rng = random.Random(seed)
    cases = []
    for turn in range(many):
        amounts = tuple([rng.choice((0, 1, 2, 2, 3, 4)) for kind in range(1 + turn % 3)])
        most = rng.choice((1, 3, 12, 60, MILLION))
        beyond = rng.choice((0, 0, 1))
        bids = tuple([
            tuple([
                (tuple([rng.randint(0, amount + beyond) for amount in amounts]), random_money(rng, most))
                for at in range(rng.randint(0, most_bids))
            ])
            for bidder in range(rng.randint(1, most_bidders))
        ])
        cases.append((amounts, bids))
    return cases
