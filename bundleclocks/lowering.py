"""Payments that come down from the bids, round by round, till sets of bidders that would block hold each one."""

from bundleclocks.core import rooms_of, set_worths, won_of
from bundleclocks.dealing import best
from bundleclocks.forms import is_below, minus, number


def outside(moving, some):
    """Those of the moving that the set hasn't."""
    return [place for place in moving if place not in some]


def least_of(numbers):
    """The least of the numbers, of which there is one at least."""
    least = numbers[0]
    for one in numbers:
        if is_below(one, least):
            least = one
    return least


def greatest_amount(rooms, moving, payments):
    """The greatest amount by which all that move can pay less, so that nobody pays below 0 and no set blocks."""
    most = [payments[place] for place in moving]
    for some, (top, bottom) in rooms.items():
        many = len(outside(moving, some))
        # A set's room gets less by the amount once for each one outside of it that moves.
        if many > 0:
            most.append(number(top, bottom * many))
    return least_of(most)


def less_by(payments, moving, amount):
    """The payments when all that move pay less by the amount."""
    return tuple([minus(payment, amount) if place in moving else payment for place, payment in enumerate(payments)])


def binding(rooms, moving):
    """The sets that would block if all that moved paid any less, in order."""
    return tuple([some for some, room in rooms.items() if room == (0, 1) and outside(moving, some)])


def stopping(payments, moving, sets):
    """Those that move, and pay 0 or are outside of a set that binds."""
    return tuple([
        place for place in moving if payments[place] == (0, 1) or any([place not in some for some in sets])
    ])


def lowered(amounts, bids, choice=None):
    """(payments, rounds): the lowered payments of a best choice, and the rounds by which they came down."""
    taken = best(amounts, bids) if choice is None else choice
    worth_of = set_worths(amounts, bids)
    won = won_of(bids, taken)
    payments = tuple([(money, 1) for money in won])
    moving = [place for place, money in enumerate(won) if money > 0]
    rounds = []
    while moving:
        amount = greatest_amount(rooms_of(worth_of, won, payments), moving, payments)
        payments = less_by(payments, moving, amount)
        sets = binding(rooms_of(worth_of, won, payments), moving)
        stops = stopping(payments, moving, sets)
        rounds.append((amount, sets, stops, payments))
        moving = [place for place in moving if place not in stops]
    return (payments, tuple(rounds))
