"""Orders of the names of a book, and which sayings they keep."""

from takenout.books import BEHIND
from takenout.errors import BadOrder
from takenout.kinds import is_listed


def check_order(book, value):
    """Raise BadOrder if a value of any kind is no order of the names of the book."""
    if not is_listed(value):
        raise BadOrder(())
    wrong = wrong_member(book, value)
    if wrong is not None:
        raise BadOrder((wrong,))
    if len(value) < len(book.names()):
        raise BadOrder((len(value),))


def wrong_member(book, values):
    """Return the number of the first member that is no name, or stands earlier, too, or None."""
    earlier = set()
    for k, value in enumerate(values):
        if not book.has_name(value) or value in earlier:
            return k
        earlier.add(value)
    return None


def broken(book, order):
    """Return the number of the first saying that an order of the names does not keep, or None."""
    behind = book.side() == BEHIND
    places = places_of(order)
    for number, saying in enumerate(book.sayings()):
        if not _stands_right(behind, places, saying):
            return number
    return None


def keeps(book, order, saying):
    """Return whether an order of the names keeps a saying, by the side of the book."""
    return keeps_by(book.side(), order, saying)


def keeps_by(side, order, saying):
    """Return whether an order keeps a saying about its names, by a side."""
    return _stands_right(side == BEHIND, places_of(order), saying)


def is_order(book, value):
    """Return whether a value of any kind is an order of the book, as a list or a tuple."""
    if not is_listed(value) or wrong_member(book, value) is not None:
        return False
    return len(value) == len(book.names()) and broken(book, value) is None


def mirrored_order(order):
    """Return the order with its names from the last one to the first one."""
    return tuple(reversed(order))


def places_of(order):
    """Return the place of each name of an order, by the names."""
    return {name: place for place, name in enumerate(order)}


def _stands_right(behind, places, saying):
    """Return whether the name of a saying stands behind, or ahead of, one of the others."""
    name, some = saying
    place = places[name]
    for other in some:
        # The two are never at one place, so not behind is ahead.
        if (places[other] < place) == behind:
            return True
    return False
