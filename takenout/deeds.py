"""Deeds, each of which takes one item out and puts it in again, and scripts of deeds."""

from takenout.errors import BadDeed, BadScript
from takenout.kinds import is_listed, is_pair
from takenout.orders import broken


def done(book, order, deed):
    """Return the order to which a deed of any kind leads."""
    word = deed_word(book, order, deed)
    if word is not None:
        raise BadDeed(word)
    return moved(order, deed)


def led(book, order, script):
    """Return the order to which a script of any kind leads."""
    return walked(book, order, script)[-1]


def script_price(book, script):
    """Return what the deeds of a script cost, whether they can be done or not."""
    return sum([book.price(deed[0]) for deed in script])


def taken_back(book, order, script):
    """Return the script that leads back by the same orders."""
    orders = walked(book, order, script)
    back = [(deed[0], name_ahead(one, deed[0])) for one, deed in zip(orders, script)]
    return back[::-1]


def all_deeds(book, order):
    """Return the list of all deeds that can be done at an order."""
    deeds = []
    for name in book.names():
        places = [None] + [other for other in order if other != name]
        for place in places:
            if broken(book, moved(order, (name, place))) is None:
                deeds.append((name, place))
    return deeds


def deed_word(book, order, deed):
    """Return the word that tells why a deed of any kind cannot be done, or None."""
    if not is_pair(deed):
        return "form"
    name, place = deed
    if not book.has_name(name):
        return "item"
    if place is not None and (place == name or not book.has_name(place)):
        return "place"
    if broken(book, moved(order, deed)) is not None:
        return "broken"
    return None


def moved(order, deed):
    """Return the order behind a deed, whatever sayings there are."""
    name, place = deed
    rest = [other for other in order if other != name]
    at = 0 if place is None else rest.index(place) + 1
    return tuple(rest[:at] + [name] + rest[at:])


def walked(book, order, script):
    """Return the list of the orders of a script of any kind, from the first to the last one."""
    if not is_listed(script):
        raise BadScript(0)
    orders = [tuple(order)]
    for number, deed in enumerate(script):
        if deed_word(book, orders[-1], deed) is not None:
            raise BadScript(number)
        orders.append(moved(orders[-1], deed))
    return orders


def name_ahead(order, name):
    """Return the name right ahead of another one in an order, or None."""
    at = order.index(name)
    return None if at == 0 else order[at - 1]
