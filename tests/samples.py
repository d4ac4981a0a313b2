"""Books, values of many kinds and plain references that the tests share."""

import copy
import itertools
import random

from takenout.books import Book

ITEMS = (("a", 1), ("b", 2), ("c", 3), ("d", 4))
SAYINGS = (("c", ("a", "b")), ("d", ("c",)))

# Values that are no name, no pair, no list of names and no order.
ODD = (
    0, 1, -1, 10 ** 39, True, False, None, "", "A", "0a", "a b", "abcdefghijklm", (), [], {},
    ("a",), ["a"], {"a": 1}, ("a", 1, 2), [("a", 1)], ((), []), {"a": [None]},
    Book("behind", [], []),
)


def book_b(side="behind"):
    """The book B of the document, or its mirrored book."""
    return Book(side, list(ITEMS), list(SAYINGS))


def book_with(names, sayings, side="behind", prices=None):
    """A book with one-letter names, all prices 1 where none are told."""
    prices = prices or [1] * len(names)
    return Book(side, list(zip(names, prices)), list(sayings))


def kept(side, order, saying):
    """Whether an order keeps a saying, said as S1.1 says it."""
    name, some = saying
    place = order.index(name)
    if side == "behind":
        return any(other in order[:place] for other in some)
    return any(other in order[place + 1:] for other in some)


def orders_of(book):
    """All orders of a book, by trying every order of its names."""
    return [
        order for order in itertools.permutations(book.names())
        if all(kept(book.side(), order, saying) for saying in book.sayings())
    ]


def rows_of(orders):
    """All rows of some orders, by trying all names of the first one that may be taken."""
    return [
        row
        for size in range(len(orders[0]) + 1)
        for row in itertools.combinations(orders[0], size)
        if all([name for name in order if name in row] == list(row) for order in orders)
    ]


def dearest_of(book, rows):
    """The greatest price of some rows."""
    prices = dict(book.all_items())
    return max(sum(prices[name] for name in row) for row in rows)


def drawn_orders(count, seed, names="abcde"):
    """Books, some without an order, with drawn prices, and some orders of the names of each."""
    draw = random.Random(seed)
    for _ in range(count):
        many = draw.randrange(len(names) + 1)
        sayings = [draw_saying(draw, names[:many]) for _ in range(3)] if many > 1 else []
        prices = [draw.choice([0, 0, 1, 2, 3, 5, 10 ** 30]) for _ in range(many)]
        book = book_with(names[:many], sayings, draw.choice(["behind", "ahead"]), prices)
        # Few changes of one order, so that many names stand in one sequence in all.
        first = draw.sample(names[:many], many)
        orders = [tuple(first)]
        for _ in range(draw.choice([0, 1, 1, 1, 2, 4])):
            order = list(first)
            for _ in range(draw.randrange(4) if many else 0):
                order.insert(draw.randrange(many), order.pop(draw.randrange(many)))
            orders.append(tuple(order))
        draw.shuffle(orders)
        yield book, orders


def great_orders(many, seed, items=40):
    """A book of forty items with great prices and sayings that no order keeps, and orders."""
    draw = random.Random(seed)
    names = [f"x{k}" for k in range(items)]
    sayings = [(names[k], (names[k - 1],)) for k in range(items)]
    book = Book("behind", [(name, draw.randrange(10 ** 30 + 1)) for name in names], sayings)
    orders = []
    for _ in range(many):
        order = list(names)
        for _ in range(3):
            order.insert(draw.randrange(items), order.pop(draw.randrange(items)))
        orders.append(tuple(order))
    return book, orders


def great_pair(side, seed, items=40, moves=None):
    """A book of forty items with great prices and sixty sayings, and two orders of it."""
    draw = random.Random(seed)
    names = [f"x{k}" for k in range(items)]
    one = draw.sample(names, items)
    other = draw.sample(names, items) if moves is None else list(one)
    for _ in range(moves or 0):
        other.insert(draw.randrange(items), other.pop(draw.randrange(items)))
    sayings = []
    while len(sayings) < 60:
        name = draw.choice(names)
        saying = (name, tuple(draw.sample([it for it in names if it != name], draw.randrange(1, 13))))
        if kept(side, one, saying) and kept(side, other, saying):
            sayings.append(saying)
    items = [(name, draw.choice([0, 1, draw.randrange(10 ** 30 + 1)])) for name in names]
    return Book(side, items, sayings), tuple(one), tuple(other)


def read_together(side, orders, order):
    """Whether an order is read together of orders, said as S8.1 says it."""
    if side == "ahead":
        orders, order = [one[::-1] for one in orders], order[::-1]
    return all(
        any(next(it for it in one if it not in order[:k]) == name for one in orders)
        for k, name in enumerate(order)
    )


def all_sayings(names):
    """All sayings about some names, each some in the sequence of the names."""
    return [
        (name, some)
        for name in names
        for size in range(1, len(names))
        for some in itertools.combinations([other for other in names if other != name], size)
    ]


def drawn_books(count, seed, names="abcd", most=6):
    """Books with drawn sayings, on both sides; not each has an order."""
    draw = random.Random(seed)
    for _ in range(count):
        sayings = [draw_saying(draw, names) for _ in range(draw.randrange(most + 1))]
        prices = [draw.randrange(4) for _ in names]
        yield book_with(names, sayings, draw.choice(["behind", "ahead"]), prices)


def draw_saying(draw, names):
    """A drawn saying about some names."""
    name = draw.choice(names)
    rest = [other for other in names if other != name]
    return name, tuple(draw.sample(rest, draw.randrange(1, len(rest) + 1)))


class Untouched:
    """A context in which values have to stay as they are."""

    def __init__(self, case, *values):
        self.case = case
        self.values = values
        self.before = copy.deepcopy(values)

    def __enter__(self):
        return self

    def __exit__(self, *told):
        self.case.assertEqual(self.before, self.values)
        return False


def raised(error, call, *args):
    """The error of this very class that a call raises, or a failure."""
    try:
        answer = call(*args)
    except error as told:
        if told.__class__ is not error:
            raise AssertionError(f"raised {told!r}, not {error.__name__}")
        return told
    raise AssertionError(f"returned {answer!r} and did not raise {error.__name__}")
