"""Books made of given orders by their least sayings, and books joined of two."""

from takenout.books import BEHIND, Book, with_sayings
from takenout.errors import NotEqual, TooGreat
from takenout.orders import places_of

MOST_SAYINGS = 60


def least_sayings(side, orders, names, name):
    """Return the list of the least sayings about a name that all the orders keep."""
    numbers = places_of(names)
    groups = [_helpers(side, order, name) for order in orders]
    rows = sorted([sorted([numbers[other] for other in some]) for some in _least_hits(groups)])
    return [(name, tuple([names[number] for number in row])) for row in rows]


def book_of(side, items, orders):
    """Return the book with all least sayings of the orders."""
    names = [item[0] for item in items]
    sayings = []
    for name in names:
        sayings.extend(least_sayings(side, orders, names, name))
        if len(sayings) > MOST_SAYINGS:
            raise TooGreat()
    return Book(side, items, sayings)


def joined_book(one, other):
    """Return the book with the sayings of two books that are equal but for these."""
    if one.side() != other.side() or one.all_items() != other.all_items():
        raise NotEqual()
    return with_sayings(one, other.sayings())


def _helpers(side, order, name):
    """Return the names beside which a name is right in an order, for the side, as a dict."""
    at = order.index(name)
    return {other: True for other in (order[:at] if side == BEHIND else order[at + 1:])}


def _least_hits(groups):
    """Return the tuples with a name of each group, and none without which this is still so."""
    hits = [()]
    for count, group in enumerate(groups, 1):
        longer = []
        for hit in hits:
            if any([name in group for name in hit]):
                longer.append(hit)
            else:
                tried = [hit + (name,) for name in group]
                longer.extend([more for more in tried if _is_least(more, groups[:count])])
        hits = longer
    return hits


def _is_least(hit, groups):
    """Return whether each name of a tuple is the only one of it in some group."""
    alone = {}
    for group in groups:
        inside = [name for name in hit if name in group]
        if len(inside) == 1:
            alone[inside[0]] = True
    return len(alone) == len(hit)
