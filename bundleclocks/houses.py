"""Houses: what is sold, some pieces of each kind, and who may bid for it."""

from bundleclocks.errors import NoBidder, NoHouse
from bundleclocks.forms import is_name, is_tuple_of, is_whole_between

MOST_KINDS = 3
MOST_BIDDERS = 6

# The least and the most of each number behind a kind's name: amount, price, step, points.
KIND_NUMBERS = ((1, 4), (0, 999), (1, 99), (0, 9))
# The same behind a bidder's name: points.
BIDDER_NUMBERS = ((0, 99),)


def is_named_row(thing, numbers):
    """Whether it is a tuple of a name and, behind it, a whole number for each least and most of the numbers."""
    many = 1 + len(numbers)
    if not is_tuple_of(thing, many, many) or not is_name(thing[0]):
        return False
    return all([is_whole_between(number, least, most) for number, (least, most) in zip(thing[1:], numbers)])


def first_wrong(rows, numbers):
    """The place of the first row that isn't as told or has a name that stood ahead, None where there is none."""
    names = []
    for place, row in enumerate(rows):
        if not is_named_row(row, numbers) or row[0] in names:
            return place
        names.append(row[0])
    return None


def check_part(part, rows, most, numbers):
    """Refuses what is no tuple of one to so many rows, each as told, no name twice."""
    if not is_tuple_of(rows, 1, most):
        raise NoHouse(part, None)
    place = first_wrong(rows, numbers)
    if place is not None:
        raise NoHouse(part, place)


class House:
    """The kinds that are sold and the bidders, as they were handed in; it never changes."""

    def __init__(self, kinds, bidders):
        check_part("kinds", kinds, MOST_KINDS, KIND_NUMBERS)
        check_part("bidders", bidders, MOST_BIDDERS, BIDDER_NUMBERS)
        self.kind_rows = kinds
        self.bidder_rows = bidders

    def kinds(self):
        """The tuple of (name, amount, price, step, points)."""
        return self.kind_rows

    def bidders(self):
        """The tuple of (name, points)."""
        return self.bidder_rows

    def amounts(self):
        """How many pieces there are, kind by kind."""
        return tuple([amount for name, amount, price, step, points in self.kind_rows])

    def prices(self):
        """At which prices the kinds begin."""
        return tuple([price for name, amount, price, step, points in self.kind_rows])

    def steps(self):
        """By how much the prices go up."""
        return tuple([step for name, amount, price, step, points in self.kind_rows])

    def points(self):
        """How many points a piece has, kind by kind."""
        return tuple([points for name, amount, price, step, points in self.kind_rows])

    def place_of(self, name):
        """The place of the bidder of that name."""
        for place, row in enumerate(self.bidder_rows):
            if row[0] == name:
                return place
        raise NoBidder(name)

    def __eq__(self, other):
        if not isinstance(other, House):
            return False
        return self.kind_rows == other.kind_rows and self.bidder_rows == other.bidder_rows

    def __len__(self):
        return len(self.bidder_rows)

    def __str__(self):
        return " ".join([row[0] for row in self.kind_rows] + [":"] + [row[0] for row in self.bidder_rows])

    def __repr__(self):
        return f"House({len(self.kind_rows)}, {len(self.bidder_rows)})"
