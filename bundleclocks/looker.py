"""The looker: whether papers show what they claim, and whether a book is one of a sale, whoever wrote them."""

from bundleclocks.core import rooms_of, set_worths, won_of
from bundleclocks.dealing import brings, shows
from bundleclocks.errors import (
    NoBidder, NoBundle, NoChoice, NoLast, NoMoney, NoPhase, NoPoints, NotAll, NoWorths, TooMany,
)
from bundleclocks.forms import is_below, is_bundle, is_number, is_same, is_tuple_of, is_whole, is_whole_between
from bundleclocks.houses import MOST_BIDDERS, MOST_KINDS
from bundleclocks.limits import ROUNDS
from bundleclocks.sales import Sale
from bundleclocks.worths import arcs_of, told_bundles

MOST_ROUNDS = 12
MOST_SEALED = 12
MOST_PRICE = 1000000
MOST_STEPS = 40
MOST_PIECES = 4
MOST_BIDS = 20


def is_round(thing, kinds):
    """Whether it is (prices, bundle) of so many kinds."""
    if not is_tuple_of(thing, 2, 2) or not is_bundle(thing[0], kinds) or not is_bundle(thing[1], kinds):
        return False
    return max(thing[0]) <= MOST_PRICE


def is_bid(thing, kinds):
    """Whether it is (bundle, money) of so many kinds."""
    return is_tuple_of(thing, 2, 2) and is_bundle(thing[0], kinds) and is_whole(thing[1]) and thing[1] >= 0


def are_rounds(thing, kinds):
    """Whether it is a tuple of a bidder's rounds."""
    return is_tuple_of(thing, 0, MOST_ROUNDS) and all([is_round(one, kinds) for one in thing])


def are_sealed(thing, kinds):
    """Whether it is a tuple of sealed bids, no bundle twice, none of them nothing."""
    if not is_tuple_of(thing, 0, MOST_SEALED) or not all([is_bid(one, kinds) for one in thing]):
        return False
    bundles = [bundle for bundle, money in thing]
    return all([any(bundle) for bundle in bundles]) and len(set(bundles)) == len(bundles)


def are_history(kinds, rounds, sealed):
    """Whether they are how many kinds there are, rounds and sealed bids of so many."""
    return is_whole_between(kinds, 1, MOST_KINDS) and are_rounds(rounds, kinds) and are_sealed(sealed, kinds)


def are_amounts(thing):
    """Whether it is a bundle of pieces that can be dealt."""
    return is_tuple_of(thing, 1, MOST_KINDS) and all([is_whole_between(many, 0, MOST_PIECES) for many in thing])


def are_bids(thing, kinds):
    """Whether it is a tuple with the bids of each bidder."""
    if not is_tuple_of(thing, 1, MOST_BIDDERS):
        return False
    return all([is_tuple_of(row, 0, MOST_BIDS) and all([is_bid(one, kinds) for one in row]) for row in thing])


def sum_of(amounts, bids, choice):
    """What the choice brings, None where they are no amounts, bids and choice."""
    if not are_amounts(amounts) or not are_bids(bids, len(amounts)):
        return None
    try:
        return brings(amounts, bids, choice)
    except NoChoice:
        return None


def holds_worths(kinds, rounds, sealed, row):
    """Whether the row gives worths that stand behind the rounds and sealed bids."""
    if not are_history(kinds, rounds, sealed):
        return False
    told = told_bundles(rounds, sealed, kinds=kinds)
    if not is_tuple_of(row, len(told), len(told)) or not all([is_bid(one, kinds) for one in row]):
        return False
    if tuple([bundle for bundle, worth in row]) != told or row[0][1] != 0:
        return False
    worth_of = dict(row)
    # Worths are just what goes up along no step by more than its weight.
    return all([worth_of[end] <= worth_of[start] + by for start, end, by, step in arcs_of(told, rounds, sealed)])


def is_step(thing, kinds):
    """Whether it has a step's form: a word, a place and a bundle."""
    return is_tuple_of(thing, 3, 3) and isinstance(thing[0], str) and is_whole(thing[1]) and is_bundle(thing[2], kinds)


def holds_ring(kinds, rounds, sealed, ring):
    """Whether the ring bars all worths."""
    if not are_history(kinds, rounds, sealed) or not is_tuple_of(ring, 1, MOST_STEPS):
        return False
    told = told_bundles(rounds, sealed, kinds=kinds)
    arcs = {step: (start, end, by) for start, end, by, step in arcs_of(told, rounds, sealed)}
    # The form is looked at first: a truth would be found among the steps like the number that it is like.
    if not all([is_step(step, kinds) and step in arcs for step in ring]):
        return False
    gone = [arcs[step] for step in ring]
    if not all([gone[at - 1][1] == gone[at][0] for at in range(len(gone))]):
        return False
    return sum([by for start, end, by in gone]) < 0


def holds_best(amounts, bids, choice, table):
    """Whether the table shows that no choice brings more."""
    total = sum_of(amounts, bids, choice)
    return total is not None and shows(amounts, bids, table) == total


def are_payments(thing, won):
    """Whether it is a tuple of numbers for those who won so much, none below 0 or above it."""
    if not is_tuple_of(thing, len(won), len(won)) or not all([is_number(payment) for payment in thing]):
        return False
    return all([payment[0] >= 0 and not is_below((money, 1), payment) for money, payment in zip(won, thing)])


def holds_core(amounts, bids, choice, payments):
    """Whether the payments are a core in which nobody's payment alone can be lowered."""
    if sum_of(amounts, bids, choice) is None:
        return False
    won = won_of(bids, choice)
    if not are_payments(payments, won):
        return False
    rooms = rooms_of(set_worths(amounts, bids), won, payments)
    # A set without room, below 0, blocks.
    if any([top < 0 for top, bottom in rooms.values()]):
        return False
    bound = [some for some, room in rooms.items() if room == (0, 1)]
    return all([
        payment == (0, 1) or any([place not in some for some in bound]) for place, payment in enumerate(payments)
    ])


LOOKS = {"worths": holds_worths, "ring": holds_ring, "best": holds_best, "core": holds_core}


def holds(claim, paper):
    """Whether the paper shows the claim; both are any things."""
    if not is_tuple_of(claim, 4, 4) or not isinstance(claim[0], str) or claim[0] not in LOOKS:
        return False
    look = LOOKS[claim[0]]
    return look(claim[1], claim[2], claim[3], paper)


def do_line(sale, line):
    """Does the deed that the line tells of; whether there is such a deed."""
    word = line[0]
    if word == "tell" and len(line) == 3:
        sale.tell(line[1], line[2])
    elif word == "bell" and len(line) == 2:
        sale.bell()
    elif word == "seal" and len(line) == 4 and is_whole(line[3]):
        sale.seal(line[1], line[2], money=line[3])
    elif word == "settle" and len(line) == 3:
        sale.settle()
    else:
        return False
    return True


def is_next_line(sale, line):
    """Does the deed that the line, any thing, tells of; whether it was let by and told in the very line."""
    if not is_tuple_of(line, 2, 4):
        return False
    try:
        done = do_line(sale, line)
    except (NoPhase, NoBidder, NoBundle, NoPoints, NoWorths, NotAll, NoLast, TooMany, NoMoney):
        return False
    return done and is_same(line, sale.line())


def book_stands(house, thing, *, rounds=ROUNDS):
    """Whether the thing, any thing, is the book of a sale of the house with so many rounds."""
    if not isinstance(thing, tuple):
        return False
    sale = Sale(house, rounds=rounds)
    for line in thing:
        if not is_next_line(sale, line):
            return False
    return True
