"""The desk: a sale that is told by rows of words, and answers by texts."""

from bundleclocks.bundles import together
from bundleclocks.errors import NoRow
from bundleclocks.forms import is_name
from bundleclocks.limits import ROUNDS
from bundleclocks.sales import Sale

FIGURES = "0123456789"
MOST_FIGURES = 20
AGAIN = "again "
BETWEEN = "; "

# What the words behind a row's first one are: n a NAME, w a whole number, p the PIECES, a whole number for each kind.
SHAPES = {
    "tell": "np", "seal": "nwp", "bell": "", "settle": "", "phase": "", "prices": "", "bids": "n", "bounds": "np",
    "won": "n", "lines": "",
}


def is_written_whole(word):
    """Whether the word is a whole number as it is written."""
    if not 1 <= len(word) <= MOST_FIGURES or not all([sign in FIGURES for sign in word]):
        return False
    return word == "0" or word[0] != "0"


def fits_sign(word, sign):
    """Whether the word is what the sign of a shape stands for."""
    return is_name(word) if sign == "n" else is_written_whole(word)


def values_of(row, words, kinds):
    """The names and numbers that the row's words behind its first one tell."""
    if words[0] not in SHAPES:
        raise NoRow(row)
    shape = SHAPES[words[0]].replace("p", "w" * kinds)
    if len(words) != 1 + len(shape) or not all([fits_sign(word, sign) for word, sign in zip(words[1:], shape)]):
        raise NoRow(row)
    return [word if sign == "n" else int(word) for word, sign in zip(words[1:], shape)]


def number_text(number):
    """The number as it is written."""
    top, bottom = number
    return f"{top}" if bottom == 1 else f"{top}/{bottom}"


def bid_text(bid):
    """The bid as it is written: its money, and its pieces."""
    bundle, money = bid
    return f"{money}:" + ",".join([str(many) for many in bundle])


def say_tell(sale, values):
    """Tells a bundle."""
    name, *pieces = values
    sale.tell(name, tuple(pieces))
    return "ok"


def say_seal(sale, values):
    """Seals money for a bundle."""
    name, money, *pieces = values
    sale.seal(name, tuple(pieces), money=money)
    return "ok"


def say_bell(sale, values):
    """Rings the bell."""
    return sale.bell()


def say_settle(sale, values):
    """Settles the sale."""
    sale.settle()
    return "done"


def say_phase(sale, values):
    """The phase and the round's number."""
    return f"{sale.phase()} {sale.turn()}"


def say_prices(sale, values):
    """The prices."""
    return " ".join([str(price) for price in sale.prices()])


def say_bids(sale, values):
    """The bidder's bids."""
    bids = sale.bids(values[0])
    return " ".join([bid_text(bid) for bid in bids]) if bids else "none"


def say_bounds(sale, values):
    """The least and the greatest that the bundle can be worth."""
    name, *pieces = values
    least, greatest = sale.bounds_for(name, tuple(pieces))
    return f"{least} -" if greatest is None else f"{least} {greatest}"


def say_won(sale, values):
    """What the bidder won, and for how much."""
    # The choice first: it is refused for the phase ahead of the name.
    choice = sale.choice()
    place = sale.house().place_of(values[0])
    bundle = together([], kinds=len(sale.prices()))
    if choice[place] is not None:
        bundle = sale.bids(values[0])[choice[place]][0]
    return " ".join([str(many) for many in bundle] + ["for", number_text(sale.payments()[place])])


def say_lines(sale, values):
    """How many lines the book has."""
    return str(len(sale))


SAYS = {
    "tell": say_tell, "seal": say_seal, "bell": say_bell, "settle": say_settle, "phase": say_phase,
    "prices": say_prices, "bids": say_bids, "bounds": say_bounds, "won": say_won, "lines": say_lines,
}


def answer_of(sale, row):
    """The answer to one row that isn't `again`; the row is any thing."""
    if not isinstance(row, str):
        raise NoRow(row)
    words = row.split(" ")
    values = values_of(row, words, len(sale.prices()))
    deed = SAYS[words[0]]
    return deed(sale, values)


class Desk:
    """A desk with a sale of its own."""

    def __init__(self, house, *, rounds=ROUNDS):
        self.sale = Sale(house, rounds=rounds)

    def say(self, row):
        """The answer to the row, any thing."""
        if not isinstance(row, str) or not row.startswith(AGAIN):
            return answer_of(self.sale, row)
        return BETWEEN.join([answer_of(self.sale, part) for part in row[len(AGAIN):].split(BETWEEN)])
