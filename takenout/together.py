"""Orders that are read together of given ones, front by front, and their numbers."""

from takenout.books import BEHIND, Book
from takenout.errors import BadBook, TooGreat
from takenout.orders import is_order, keeps_by, mirrored_order
from takenout.words import is_number

READ = "read"
BARS = "bars"


def is_together(side, orders, value):
    """Return whether a value of any kind is an order, as a tuple, that is read together of the orders."""
    if not isinstance(value, tuple) or not is_order(_book_with(side, orders, []), value):
        return False
    return together_paper(side, orders, value)[0] == READ


def together_paper(side, orders, order):
    """Return the numbers by which an order is read, or a saying that it alone does not keep."""
    lists = _turned(side, orders)
    numbers = []
    read = {}
    for name in _by_side(side, order):
        firsts = _firsts(lists, read)
        if name not in firsts:
            return (BARS, name, tuple(_different(firsts)))
        numbers.append(firsts.index(name))
        read[name] = True
    return (READ, tuple(numbers))


def judge_together(side, orders, order, value):
    """Return whether a value of any kind is a together paper for an order."""
    if not isinstance(value, tuple):
        return False
    if len(value) == 2 and value[0] == READ:
        return _is_read(_turned(side, orders), _by_side(side, order), value[1])
    if len(value) == 3 and value[0] == BARS:
        return _is_barred(side, orders, order, value[1:])
    return False


def count_together(side, orders):
    """Return how many orders are read together of the orders."""
    lists = _turned(side, orders)
    return _count_from(lists, _bits(lists), 0, {})


def together_at(side, orders, number):
    """Return the order with a number among those that are read together."""
    lists = _turned(side, orders)
    bits = _bits(lists)
    known = {}
    if number >= _count_from(lists, bits, 0, known):
        raise TooGreat()
    row = []
    mask = 0
    while len(row) < len(lists[0]):
        for name, behind in _choices(lists, bits, mask):
            count = _count_from(lists, bits, behind, known)
            if number < count:
                row.append(name)
                mask = behind
                break
            number -= count
    return _by_side(side, tuple(row))


def together_number(side, orders, order):
    """Return the number of an order that is read together."""
    lists = _turned(side, orders)
    bits = _bits(lists)
    known = {}
    number = 0
    mask = 0
    for name in _by_side(side, order):
        for other, behind in _choices(lists, bits, mask):
            if other == name:
                break
            number += _count_from(lists, bits, behind, known)
        mask = mask | bits[name]
    return number


def _by_side(side, order):
    """Return an order for the side, turned so that it is read from its front."""
    return order if side == BEHIND else mirrored_order(order)


def _turned(side, orders):
    """Return the orders for the side, turned so that they are read from their fronts."""
    return [_by_side(side, order) for order in orders]


def _book_with(side, orders, sayings):
    """Return the book with the names of the orders, no prices and some sayings."""
    return Book(side, [(name, 0) for name in orders[0]], sayings)


def _firsts(lists, read):
    """Return the first name of each list that has not been read."""
    return [[name for name in row if name not in read][0] for row in lists]


def _different(names):
    """Return the names, each just once, in the sequence in which they come first."""
    return list({name: True for name in names})


def _is_read(lists, row, numbers):
    """Return whether a value of any kind tells numbers of lists of which a row is read."""
    if not isinstance(numbers, tuple) or len(numbers) != len(row):
        return False
    read = {}
    for name, number in zip(row, numbers):
        if not is_number(number) or number >= len(lists) or _firsts(lists, read)[number] != name:
            return False
        read[name] = True
    return True


def _is_barred(side, orders, order, saying):
    """Return whether a pair is a saying that all the orders keep, and another order does not."""
    try:
        _book_with(side, orders, [saying])
    except BadBook:
        return False
    return all([keeps_by(side, one, saying) for one in orders]) and not keeps_by(side, order, saying)


def _bits(lists):
    """Return a bit for each name, so that a number tells which names have been read."""
    return {name: 1 << k for k, name in enumerate(lists[0])}


def _choices(lists, bits, mask):
    """Return the pairs of each name that can be read next, and of the names that are read then."""
    unread = [[name for name in row if not mask & bits[name]] for row in lists]
    return [(name, mask | bits[name]) for name in _different([row[0] for row in unread if row])]


def _count_from(lists, bits, mask, known):
    """Return in how many ways the names that are not in mask can be read.

    What is found is kept in known, as there are far fewer sets of read names than orders.
    """
    if mask not in known:
        ways = [_count_from(lists, bits, behind, known) for _, behind in _choices(lists, bits, mask)]
        known[mask] = sum(ways) if ways else 1
    return known[mask]
