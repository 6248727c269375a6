"""Points 6, 7, 9 and 19 to 25 told again by sums that owe the program nothing; and inputs to ask them of."""

import random
from fractions import Fraction
from itertools import combinations, product

# The smallest ring goes through all of these twelve rounds: without any one of them there are worths.
TWELVE_IN_A_RING = (
    ((41, 1282), (800, 400)), ((28, 764), (746, 600)), ((276, 310), (600, 746)), ((718, 41), (400, 800)),
    ((1236, 28), (200, 746)), ((1690, 276), (54, 600)), ((1959, 718), (0, 400)), ((1972, 1236), (54, 200)),
    ((1724, 1690), (200, 54)), ((1282, 1959), (400, 0)), ((764, 1972), (600, 54)), ((310, 1724), (746, 200)),
)
MILLION = 1000000
TWENTY = 99999999999999999999


def price_of(prices, bundle):
    total = 0
    for at in range(len(bundle)):
        total += prices[at] * bundle[at]
    return total


def told_again(rounds, sealed, kinds):
    every = [(0,) * kinds] + [row[1] for row in rounds] + [row[0] for row in sealed]
    return tuple(sorted(set(every), key=every.index))


def is_whole(thing):
    return type(thing) is int


def row_faults(row, rounds, sealed, kinds):
    """All by which the row fails to be the worths of point 6."""
    told = told_again(rounds, sealed, kinds)
    if type(row) is not tuple or [type(part) for part in row] != [tuple] * len(told):
        return ["no tuple of a tuple for each told bundle"]
    if tuple([bundle for bundle, worth in row]) != told:
        return ["not the told bundles in their order"]
    worth_of = dict(row)
    faults = [("no whole number from 0 on", row) for bundle, worth in row if not is_whole(worth) or worth < 0]
    if worth_of[told[0]] != 0:
        faults.append("nothing is worth something")
    faults += [("not its money", bid) for bid in sealed if worth_of[bid[0]] != bid[1]]
    for prices, best in rounds:
        for other in told:
            if worth_of[best] - price_of(prices, best) < worth_of[other] - price_of(prices, other):
                faults.append(("a better one", prices, best, other))
    return faults


def step_again(step, rounds, sealed, told):
    """(start, end, weight) of a step as point 7 tells it; fails where it is none."""
    word, place, bundle = step
    assert type(step) is tuple and type(bundle) is tuple and is_whole(place), step
    assert bundle in told, step
    nothing = told[0]
    if word == "round":
        assert 0 <= place < len(rounds), step
        prices, best = rounds[place]
        return (best, bundle, price_of(prices, bundle) - price_of(prices, best))
    if word == "free":
        assert place == 0, step
        return (bundle, nothing, 0)
    assert word in ("bid", "due") and 0 <= place < len(sealed) and sealed[place][0] == bundle, step
    if word == "bid":
        return (nothing, bundle, sealed[place][1])
    return (bundle, nothing, -sealed[place][1])


def ring_faults(ring, rounds, sealed, kinds):
    """All by which the ring fails to be one of point 7."""
    if type(ring) is not tuple or not 1 <= len(ring) <= 40:
        return ["no tuple of one to forty steps"]
    told = told_again(rounds, sealed, kinds)
    try:
        steps = [step_again(step, rounds, sealed, told) for step in ring]
    except (AssertionError, TypeError, ValueError) as error:
        return [("no step", error)]
    faults = [("leads elsewhere", at) for at in range(len(steps)) if steps[at - 1][1] != steps[at][0]]
    if sum([weight for start, end, weight in steps]) >= 0:
        faults.append("comes to no less than 0")
    return faults


def shortest_again(told, rounds, sealed):
    """For each two told bundles the least weight of a way from one to the other, by trying each bundle between."""
    ways = {(one, other): None for one in told for other in told}

    def take(one, other, weight):
        if ways[one, other] is None or weight < ways[one, other]:
            ways[one, other] = weight

    for bundle in told:
        take(bundle, bundle, 0)
        take(bundle, told[0], 0)
        for prices, best in rounds:
            take(best, bundle, price_of(prices, bundle) - price_of(prices, best))
    for bundle, money in sealed:
        take(told[0], bundle, money)
        take(bundle, told[0], -money)
    for between in told:
        for one in told:
            for other in told:
                if ways[one, between] is not None and ways[between, other] is not None:
                    take(one, other, ways[one, between] + ways[between, other])
    return ways


def is_barred(rounds, sealed, kinds):
    told = told_again(rounds, sealed, kinds)
    ways = shortest_again(told, rounds, sealed)
    return any([ways[bundle, bundle] < 0 for bundle in told])


def bounds_again(bundle, rounds, sealed):
    """The least and the greatest worth, with the bundle put behind the told ones; there are to be worths."""
    told = told_again(rounds, sealed + ((bundle, None),), len(bundle))
    ways = shortest_again(told, rounds, sealed)
    return (-ways[bundle, told[0]], ways[told[0], bundle])


def rounds_of_worths(rng, kinds, many, worth_of, most_price):
    """Rounds of a bidder who tells a best one of the bundles that worth_of has."""
    rounds = []
    for turn in range(many):
        prices = tuple([rng.randint(0, most_price) for kind in range(kinds)])
        best = max(sorted(worth_of), key=lambda bundle: worth_of[bundle] - price_of(prices, bundle))
        rounds.append((prices, best))
    return tuple(rounds)


def random_cases(seed, many):
    """(rounds, sealed, kinds): by random bundles, or by those that a bidder with worths would tell."""
    rng = random.Random(seed)
    cases = []
    for turn in range(many):
        kinds = 1 + turn % 3
        most_price = rng.choice((2, 9, 60, MILLION))
        most_pieces = rng.choice((1, 2, 4))
        bundles = [tuple([rng.randint(0, most_pieces) for kind in range(kinds)]) for at in range(rng.randint(1, 14))]
        worth_of = {bundle: rng.randint(0, most_price * kinds * most_pieces) for bundle in bundles}
        worth_of[(0,) * kinds] = 0
        rounds = rounds_of_worths(rng, kinds, rng.randint(0, 12), worth_of, most_price)
        if rng.random() < 0.3:
            rounds = tuple([(prices, rng.choice(bundles)) for prices, best in rounds])
        sealed = [(bundle, worth) for bundle, worth in worth_of.items() if any(bundle) and rng.random() < 0.4]
        if rng.random() < 0.3:
            sealed = [(bundle, max(0, worth + rng.randint(-3, 3))) for bundle, worth in sealed]
        rng.shuffle(sealed)
        cases.append((rounds, tuple(sealed[:12]), kinds))
    return cases


def bundles_again(amounts):
    """The bundles within the amounts, in the order of tuples."""
    return list(product(*[range(amount + 1) for amount in amounts]))


def taken_away(whole, bundle):
    """What is left of the whole, None where the bundle isn't within it."""
    left = tuple([many - few for many, few in zip(whole, bundle)])
    return None if min(left) < 0 else left


def choice_sum(amounts, bids, choice):
    """What the choice brings, None where it is none; its parts are places of bids, or None."""
    left, total = amounts, 0
    for row, place in zip(bids, choice):
        if place is not None:
            left = taken_away(left, row[place][0])
            if left is None:
                return None
            total += row[place][1]
    return total


def all_choices(amounts, bids):
    """Each choice with what it brings, by looking at all of them, in the order of point 19."""
    every = [list(range(len(row))) + [None] for row in bids]
    sums = [(choice, choice_sum(amounts, bids, choice)) for choice in product(*every)]
    return [(choice, total) for choice, total in sums if total is not None]


def best_by_look(amounts, bids):
    """The first of the choices that bring the most, and what it brings."""
    choices = all_choices(amounts, bids)
    most = max([total for choice, total in choices])
    return [(choice, total) for choice, total in choices if total == most][0]


def most_again(whole, bids, known=None):
    """The most that the bids can bring out of the whole, asked from the first bidder on."""
    known = {} if known is None else known
    if not bids:
        return 0
    if (whole, len(bids)) not in known:
        sums = [most_again(whole, bids[1:], known)]
        for bundle, money in bids[0]:
            left = taken_away(whole, bundle)
            if left is not None:
                sums.append(money + most_again(left, bids[1:], known))
        known[whole, len(bids)] = max(sums)
    return known[whole, len(bids)]


def bound_again(amounts, bids, table):
    """The bound that any thing shows by point 20, None where it shows none."""
    bundles = bundles_again(amounts)
    if type(table) is not tuple or [type(layer) for layer in table] != [tuple] * (len(bids) + 1):
        return None
    if any([[type(part) for part in layer] != [int] * len(bundles) for layer in table]):
        return None
    if any([part < 0 for part in table[-1]]):
        return None
    layers = [dict(zip(bundles, layer)) for layer in table]
    for bidder, row in enumerate(bids):
        for whole in bundles:
            if layers[bidder][whole] < layers[bidder + 1][whole]:
                return None
            for bundle, money in row:
                left = taken_away(whole, bundle)
                if left is not None and layers[bidder][whole] < money + layers[bidder + 1][left]:
                    return None
    return layers[0][amounts]


def sets_again(many):
    return [some for size in range(many + 1) for some in combinations(range(many), size)]


def set_worth_again(amounts, bids, some):
    return most_again(amounts, tuple([bids[place] for place in some]))


def set_worths_again(amounts, bids):
    return {some: set_worth_again(amounts, bids, some) for some in sets_again(len(bids))}


def won_again(bids, choice):
    return [0 if choice[place] is None else bids[place][choice[place]][1] for place in range(len(bids))]


def is_number(thing):
    """Whether it is a number of point 2."""
    if type(thing) is not tuple or [type(part) for part in thing] != [int, int] or thing[1] < 1:
        return False
    shown = Fraction(thing[0], thing[1])
    return (shown.numerator, shown.denominator) == thing


def over_worth(worth_of, won, paid):
    """By the set, by how much its worth is above what its bidders won and all others pay; paid are Fractions."""
    many = len(won)
    return {
        some: worth - sum([Fraction(won[at]) if at in some else paid[at] for at in range(many)])
        for some, worth in worth_of.items()
    }


def fractions_of(payments):
    return [Fraction(top, bottom) for top, bottom in payments]


def blocks_again(amounts, bids, choice, payments):
    """(set, Fraction) of the set that blocks by the most, of several the first, or None."""
    over = over_worth(set_worths_again(amounts, bids), won_again(bids, choice), fractions_of(payments))
    most = max(over.values())
    if most <= 0:
        return None
    return ([some for some in sets_again(len(bids)) if over[some] == most][0], most)


def amount_again(worth_of, won, paid, moving):
    """The greatest amount, found as the least at which somebody comes to 0 or a set to the edge of blocking."""
    over = over_worth(worth_of, won, paid)
    edges = [paid[place] for place in moving]
    for some in worth_of:
        many = len(set(moving) - set(some))
        if many:
            edges.append(-over[some] / many)
    return min(edges)


def round_again(worth_of, won, paid, moving):
    """(amount, sets, stops, payments) of one round of point 24, with Fractions; fails where nobody would stop."""
    amount = amount_again(worth_of, won, paid, moving)
    after = [paid[place] - amount if place in moving else paid[place] for place in range(len(paid))]
    over = over_worth(worth_of, won, after)
    # A little less still: by this much, whatever is at its edge is beyond it, and nothing else is.
    little = Fraction(1, 10 ** 30)
    beyond = over_worth(worth_of, won, [after[at] - little if at in moving else after[at] for at in range(len(after))])
    sets = tuple([some for some in sets_again(len(paid)) if over[some] <= 0 < beyond[some]])
    stops = tuple([at for at in moving if after[at] == 0 or not all([at in some for some in sets])])
    assert stops and min(after) >= 0 and max(over.values()) <= 0, (won, paid, moving)
    return amount, sets, stops, after


def as_number(shown):
    return (shown.numerator, shown.denominator)


def lowered_again(amounts, bids, choice):
    """The payments and rounds of point 24."""
    worth_of = set_worths_again(amounts, bids)
    won = won_again(bids, choice)
    paid = [Fraction(money) for money in won]
    moving = [place for place in range(len(bids)) if won[place] > 0]
    rounds = []
    while moving:
        amount, sets, stops, paid = round_again(worth_of, won, paid, moving)
        rounds.append((as_number(amount), sets, stops, tuple([as_number(one) for one in paid])))
        moving = [place for place in moving if place not in stops]
    return (tuple([as_number(one) for one in paid]), tuple(rounds))


def first_best_again(amounts, bids):
    """The best choice, of several the first, found from the first bidder on by what those behind can bring."""
    left, choice = amounts, []
    for bidder, row in enumerate(bids):
        most = most_again(left, bids[bidder:])
        fits = [(at, taken_away(left, bundle), money) for at, (bundle, money) in enumerate(row)]
        good = [(at, rest) for at, rest, money in fits
                if rest is not None and money + most_again(rest, bids[bidder + 1:]) == most]
        place, left = good[0] if good else (None, left)
        choice.append(place)
    return tuple(choice)


def random_money(rng, most):
    return rng.choice((0, 1, rng.randint(0, most), rng.randint(0, most), TWENTY if most == MILLION else most))


def random_bids(seed, many, most_bidders=6, most_bids=20):
    """(amounts, bids): few kinds of money and bundles for many ties, or all kinds of them."""
    rng = random.Random(seed)
    cases = []
    for turn in range(many):
        amounts = tuple([rng.choice((0, 1, 2, 2, 3, 4)) for kind in range(1 + turn % 3)])
        most = rng.choice((1, 3, 12, 60, MILLION))
        beyond = rng.choice((0, 0, 1))
        bids = tuple([
            tuple([
                (tuple([rng.randint(0, amount + beyond) for amount in amounts]), random_money(rng, most))
                for at in range(rng.randint(0, most_bids))
            ])
            for bidder in range(rng.randint(1, most_bidders))
        ])
        cases.append((amounts, bids))
    return cases


def need(truth):
    if not truth:
        raise AssertionError


def need_tuple(thing, least, most):
    need(type(thing) is tuple and least <= len(thing) <= most)


def need_bundle(thing, kinds, most=None):
    need_tuple(thing, kinds, kinds)
    need(all([is_whole(many) and many >= 0 and (most is None or many <= most) for many in thing]))


def need_bid(thing, kinds):
    need_tuple(thing, 2, 2)
    need_bundle(thing[0], kinds)
    need(is_whole(thing[1]) and thing[1] >= 0)


def need_history(kinds, rounds, sealed):
    need(is_whole(kinds) and 1 <= kinds <= 3)
    need_tuple(rounds, 0, 12)
    need_tuple(sealed, 0, 12)
    for one in rounds:
        need_tuple(one, 2, 2)
        need_bundle(one[0], kinds, MILLION)
        need_bundle(one[1], kinds)
    for at, one in enumerate(sealed):
        need_bid(one, kinds)
        need(max(one[0]) > 0 and one[0] not in [other[0] for other in sealed[:at]])


def need_deal(amounts, bids, choice):
    need_tuple(amounts, 1, 3)
    need_bundle(amounts, len(amounts), 4)
    need_tuple(bids, 1, 6)
    for row in bids:
        need_tuple(row, 0, 20)
        for one in row:
            need_bid(one, len(amounts))
    need_tuple(choice, len(bids), len(bids))
    for row, place in zip(bids, choice):
        need(place is None or is_whole(place) and 0 <= place < len(row))
    need(choice_sum(amounts, bids, choice) is not None)


def look_at_worths(kinds, rounds, sealed, row):
    need_history(kinds, rounds, sealed)
    need_tuple(row, 1, 25)
    for one in row:
        need_bid(one, kinds)
    need(row_faults(row, rounds, sealed, kinds) == [])


def look_at_ring(kinds, rounds, sealed, ring):
    need_history(kinds, rounds, sealed)
    need_tuple(ring, 1, 40)
    for step in ring:
        need_tuple(step, 3, 3)
        need(type(step[0]) is str)
        need_bundle(step[2], kinds)
    need(ring_faults(ring, rounds, sealed, kinds) == [])


def look_at_best(amounts, bids, choice, table):
    need_deal(amounts, bids, choice)
    need(bound_again(amounts, bids, table) == choice_sum(amounts, bids, choice))


def look_at_core(amounts, bids, choice, payments):
    need_deal(amounts, bids, choice)
    need_tuple(payments, len(bids), len(bids))
    need(all([is_number(payment) for payment in payments]))
    paid, won = fractions_of(payments), won_again(bids, choice)
    over = over_worth(set_worths_again(amounts, bids), won, paid)
    need(max(over.values()) <= 0)
    for place in range(len(bids)):
        need(0 <= paid[place] <= won[place])
        need(paid[place] == 0 or [some for some in over if over[some] == 0 and place not in some])


def holds_again(claim, paper):
    """Point 25, of any things."""
    looks = {"worths": look_at_worths, "ring": look_at_ring, "best": look_at_best, "core": look_at_core}
    try:
        need_tuple(claim, 4, 4)
        need(type(claim[0]) is str and claim[0] in looks)
        looks[claim[0]](*claim[1:], paper)
    except AssertionError:
        return False
    return True


def paths_of(thing):
    """The ways to each part of a thing, the thing itself first."""
    paths = [()]
    if type(thing) in (tuple, list):
        for at, part in enumerate(thing):
            paths += [(at,) + path for path in paths_of(part)]
    return paths


def part_at(thing, path):
    return thing if path == () else part_at(thing[path[0]], path[1:])


def put_at(thing, path, part):
    """The thing with another part at the end of that way."""
    if path == ():
        return part
    kind = type(thing)
    return kind([put_at(one, path[1:], part) if at == path[0] else one for at, one in enumerate(thing)])


def otherwise(part):
    """What may stand in the place of a part of a thing, each of them other than it."""
    some = [None, True, False, 0, 1, -1, TWENTY, "", "round", "worths", (), [], (0,), [part], (part,)]
    if is_whole(part):
        some += [part + 1, part - 1, -part, str(part), bool(part)]
    if type(part) is str:
        some += [part + "s", part[:-1], part.upper(), [part], tuple(part)]
    if type(part) in (tuple, list):
        some += [list(part), part[1:], part[:-1], part + part[-1:], part[::-1], part + type(part)([0])]
    return [one for one in some if repr(one) != repr(part)]


def any_things():
    deep = 0
    for turn in range(8):
        deep = [deep] if turn % 2 else (deep,)
    return (None, True, False, 0, 1, -1, TWENTY, -TWENTY, "", "a", "worths", " " * 400, (), [], ((),), [[]], (None,),
            ("worths",), ("ring", 1, (), ()), (0,) * 2999, [0] * 2999, deep, ("tell", "zed", (1, 0)), ("bell",))
