"""Which form a thing has, asked of any thing, whatever it is."""

LETTERS = "abcdefghijklmnopqrstuvwxyz"
LONGEST_NAME = 8


def is_whole(thing):
    """Whether it is a whole number."""
    # Python counts True and False among the ints; here they are no whole numbers.
    return isinstance(thing, int) and not isinstance(thing, bool)


def is_whole_between(thing, least, most):
    """Whether it is a whole number from the least to the most."""
    return is_whole(thing) and least <= thing <= most


def is_name(thing):
    """Whether it is a text of one to eight small letters."""
    if not isinstance(thing, str) or not 1 <= len(thing) <= LONGEST_NAME:
        return False
    return all([sign in LETTERS for sign in thing])


def is_tuple_of(thing, least, most):
    """Whether it is a tuple of so many things, whichever they are."""
    return isinstance(thing, tuple) and least <= len(thing) <= most
