"""Sets of bidders, what they are worth, and whether one of them could do better with the house."""

from bundleclocks.bundles import within
from bundleclocks.dealing import best_table, brings, fits_of, layer_above
from bundleclocks.forms import is_below, minus, plus


def sets_of(many):
    """All sets of so many bidders' places, by how many they have, then as tuples go."""
    sets = [()]
    last = [()]
    while last:
        last = [some + (place,) for some in last for place in range(some[-1] + 1 if some else 0, many)]
        sets += last
    return sets


def set_worth(amounts, bids, some):
    """What the best choice of the set's bids alone brings."""
    return best_table(amounts, tuple([bids[place] for place in some]))[0][-1]


def set_worths(amounts, bids):
    """The worth of each set, by the set, in the order of sets."""
    fits = [fits_of(amounts, row) for row in bids]
    # A set without its first bidder stands ahead of it, so its layer is there by then.
    layers = {(): tuple([0 for bundle in within(amounts)])}
    for some in sets_of(len(bids))[1:]:
        layers[some] = layer_above(fits[some[0]], layers[some[1:]])
    return {some: layer[-1] for some, layer in layers.items()}


def won_of(bids, choice):
    """What each bidder won by the choice: the money of the bid there, 0 for None."""
    return tuple([0 if place is None else row[place][1] for row, place in zip(bids, choice)])


def rooms_of(worth_of, won, payments):
    """By the set, how far its worth is below what its bidders won and what all others pay, together."""
    rooms = {}
    for some, worth in worth_of.items():
        room = (-worth, 1)
        for place, money in enumerate(won):
            room = plus(room, (money, 1) if place in some else payments[place])
        rooms[some] = room
    return rooms


def blocks(amounts, bids, choice, payments):
    """(set, by) of the set that blocks by the most, of several the first, None where none does."""
    # Asked for its refusal alone.
    brings(amounts, bids, choice)
    least = (0, 1)
    told = None
    for some, room in rooms_of(set_worths(amounts, bids), won_of(bids, choice), payments).items():
        if is_below(room, least):
            least = room
            told = (some, minus((0, 1), room))
    return told


def harms(amounts, bids, choice):
    """What each one pays by harm: what the others' set is worth, less what the others won, for a best choice."""
    won = won_of(bids, choice)
    told = []
    for bidder in range(len(bids)):
        others = tuple([place for place in range(len(bids)) if place != bidder])
        told.append(set_worth(amounts, bids, others) - sum(won) + won[bidder])
    return tuple(told)
