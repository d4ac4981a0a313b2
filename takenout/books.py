"""Books: items with prices, and sayings about them."""

from takenout.errors import BadBook, UnknownName
from takenout.kinds import is_listed, is_pair
from takenout.words import is_number, is_word

BEHIND = "behind"
AHEAD = "ahead"


class Book:
    """A side, items and sayings; it never changes."""

    def __init__(self, side, items, sayings):
        path = _wrong_part(side, items, sayings)
        if path is not None:
            raise BadBook(path)
        self._side = side
        self._items = tuple(items)
        self._sayings = tuple(sayings)
        self._prices = {name: price for name, price in items}

    def side(self):
        """Return the side."""
        return self._side

    def all_items(self):
        """Return the list of the items."""
        return list(self._items)

    def sayings(self):
        """Return the list of the sayings."""
        return list(self._sayings)

    def names(self):
        """Return the list of the names of the items, in order."""
        return list(self._prices)

    def has_name(self, value):
        """Return whether a value of any kind is the name of an item."""
        return isinstance(value, str) and value in self._prices

    def price(self, name):
        """Return the price of an item."""
        if not self.has_name(name):
            raise UnknownName(name)
        return self._prices[name]

    def total(self):
        """Return the sum of all prices."""
        return sum(self._prices.values())

    def __eq__(self, other):
        return (
            isinstance(other, Book)
            and self._side == other._side
            and self._items == other._items
            and self._sayings == other._sayings
        )


def mirrored_book(book):
    """Return the book with the other side, and the same items and sayings."""
    side = AHEAD if book.side() == BEHIND else BEHIND
    return Book(side, book.all_items(), book.sayings())


def with_sayings(book, sayings):
    """Return the book with more sayings behind its own."""
    if not is_listed(sayings):
        raise BadBook((2,))
    return Book(book.side(), book.all_items(), book.sayings() + list(sayings))


def _wrong_part(side, items, sayings):
    """Return the path of the first wrong part of what should be a book, or None."""
    if side not in (BEHIND, AHEAD):
        return (0,)
    path = _wrong_item(items)
    if path is None:
        path = _wrong_saying(items, sayings)
    return path


def _wrong_item(items):
    """Return the path of the first wrong part of the items, or None."""
    if not is_listed(items):
        return (1,)
    earlier = set()
    for k, item in enumerate(items):
        if not is_pair(item):
            return (1, k)
        name, price = item
        if not is_word(name) or name in earlier:
            return (1, k, 0)
        if not is_number(price):
            return (1, k, 1)
        earlier.add(name)
    return None


def _wrong_saying(items, sayings):
    """Return the path of the first wrong part of the sayings about right items, or None."""
    if not is_listed(sayings):
        return (2,)
    names = {item[0]: True for item in items}
    for k, saying in enumerate(sayings):
        if not is_pair(saying):
            return (2, k)
        name, some = saying
        if not isinstance(name, str) or name not in names:
            return (2, k, 0)
        if not isinstance(some, tuple) or not some:
            return (2, k, 1)
        place = _wrong_other(names, name, some)
        if place is not None:
            return (2, k, 1, place)
    return None


def _wrong_other(names, name, some):
    """Return the place of the first wrong member of what a saying about a name has, or None."""
    earlier = {name: True}
    for place, other in enumerate(some):
        if not isinstance(other, str) or other not in names or other in earlier:
            return place
        earlier[other] = True
    return None
