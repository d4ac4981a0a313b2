"""Next deeds from one order of a book to another, and the orders between the two."""

from itertools import permutations

from takenout.chains import row_begins, row_ends
from takenout.deeds import all_deeds, deed_word, moved
from takenout.leastprices import least_price
from takenout.orders import broken, is_order, places_of


def is_next(book, one, other, deed):
    """Return whether a cheapest script from one order to the other begins with a deed of any kind."""
    if deed_word(book, one, deed) is not None:
        return False
    rest = least_price(book, moved(one, deed), other)
    return book.price(deed[0]) + rest == least_price(book, one, other)


def next_deeds(book, one, other):
    """Return the list of all next deeds, in the order of all deeds."""
    ends = row_ends(book, [one, other])
    begins = row_begins(book, [one, other])
    best = max(ends.values(), default=0)
    places = places_of(other)
    deeds = []
    for name, place in all_deeds(book, one):
        at = 0 if place is None else one.index(place) + 1
        ahead = max([ends[it] for it in one[:at] if places[it] < places[name]], default=0)
        behind = max([begins[it] for it in one[at:] if places[it] > places[name]], default=0)
        # The item is to stand for good, beside a row as dear as a dearest one; or it costs nothing.
        if ahead + behind == best or book.price(name) == 0:
            deeds.append((name, place))
    return deeds


def is_between(book, one, other, value):
    """Return whether a value of any kind is an order between one order and the other, as a tuple."""
    if not isinstance(value, tuple) or not is_order(book, value):
        return False
    return _price_by(book, one, value, other) == least_price(book, one, other)


def all_between(book, one, other):
    """Return the list of all orders between one order and the other, ascending."""
    least = least_price(book, one, other)
    orders = [order for order in permutations(book.names()) if broken(book, order) is None]
    return [order for order in orders if _price_by(book, one, order, other) == least]


def _price_by(book, one, order, other):
    """Return the least price from one order to the other by a third one."""
    return least_price(book, one, order) + least_price(book, order, other)
