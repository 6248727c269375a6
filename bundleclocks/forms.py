"""Which form a thing has, asked of any thing, whatever it is; and sums of numbers, tuples (top, bottom)."""

LETTERS = "abcdefghijklmnopqrstuvwxyz"
LONGEST_NAME = 8


def is_whole(thing):
    """Whether it is a whole number."""
    # Python counts True and False among the ints; here they are no whole numbers.
    return isinstance(thing, int) and not isinstance(thing, bool)


def is_whole_between(thing, least, most):
    """Whether it is a whole number from the least to the most."""
    return is_whole(thing) and least <= thing <= most


def is_name(thing):
    """Whether it is a text of one to eight small letters."""
    if not isinstance(thing, str) or not 1 <= len(thing) <= LONGEST_NAME:
        return False
    return all([sign in LETTERS for sign in thing])


def is_tuple_of(thing, least, most):
    """Whether it is a tuple of so many things, whichever they are."""
    return isinstance(thing, tuple) and least <= len(thing) <= most


def is_bundle(thing, kinds):
    """Whether it is a bundle of so many kinds."""
    return is_tuple_of(thing, kinds, kinds) and all([is_whole(many) and many >= 0 for many in thing])


def is_same(thing, told):
    """Whether the thing is what was told, down to the innermost; what was told holds no truths and no lists."""
    if isinstance(told, tuple):
        if not is_tuple_of(thing, len(told), len(told)):
            return False
        return all([is_same(part, other) for part, other in zip(thing, told)])
    return not isinstance(thing, bool) and thing == told


def shared_divisor(one, other):
    """The greatest whole number that divides both; not both are 0."""
    while other != 0:
        one, other = other, one % other
    return abs(one)


def number(top, bottom):
    """The number of that top and bottom, the bottom above 0, in its lowest terms."""
    shared = shared_divisor(top, bottom)
    return (top // shared, bottom // shared)


def is_number(thing):
    """Whether it is a number."""
    if not is_tuple_of(thing, 2, 2) or not is_whole(thing[0]) or not is_whole(thing[1]) or thing[1] < 1:
        return False
    return shared_divisor(thing[0], thing[1]) == 1


def plus(one, other):
    """The sum of two numbers."""
    return number(one[0] * other[1] + other[0] * one[1], one[1] * other[1])


def minus(one, other):
    """The one number less the other."""
    return plus(one, (-other[0], other[1]))


def is_below(one, other):
    """Whether the one number is less than the other."""
    return one[0] * other[1] < other[0] * one[1]
