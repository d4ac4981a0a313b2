"""The acts by which a house is changed, and the words for those that cannot be done."""

from takenout.books import Book, with_sayings
from takenout.deeds import deed_word, moved
from takenout.errors import BadAct, BadBook
from takenout.moments import Moment, is_uncrossed
from takenout.orders import broken, keeps, wrong_member
from takenout.words import is_number, is_word


def moment_behind(moment, act):
    """Return the moment behind an act of any kind; raise BadAct if it cannot be done."""
    if not isinstance(act, tuple) or not act or not isinstance(act[0], str):
        raise BadAct("form")
    if SIZES.get(act[0]) != len(act):
        raise BadAct("form")
    step = STEPS[act[0]]
    return step(moment, act)


def _put(moment, act):
    """Do a deed at the present order."""
    _, name, place = act
    if name in moment.nailed:
        raise BadAct("nailed")
    word = deed_word(moment.book, moment.order, (name, place))
    if word is not None:
        raise BadAct(word)
    return Moment(moment.book, moved(moment.order, (name, place)), moment.goal, moment.nailed)


def _goal(moment, act):
    """Take another order as the goal."""
    _, goal = act
    book = moment.book
    if not isinstance(goal, tuple) or wrong_member(book, goal) is not None or len(goal) < len(book.names()):
        raise BadAct("order")
    if broken(book, goal) is not None:
        raise BadAct("broken")
    if not is_uncrossed(moment.nailed, moment.order, goal):
        raise BadAct("crossed")
    return Moment(book, moment.order, goal, moment.nailed)


def _come(moment, act):
    """Put a new item into the book and both orders."""
    _, name, price, place, goal_place = act
    if not is_word(name) or moment.book.has_name(name):
        raise BadAct("name")
    _ask_price(price)
    for other in (place, goal_place):
        if other is not None and not moment.book.has_name(other):
            raise BadAct("place")
    book = _with_items(moment.book, moment.book.all_items() + [(name, price)])
    order = moved(moment.order, (name, place))
    return Moment(book, order, moved(moment.goal, (name, goal_place)), moment.nailed)


def _go(moment, act):
    """Take an item out of the book and both orders."""
    _, name = act
    _ask_item(moment, name)
    items = [item for item in moment.book.all_items() if item[0] != name]
    sayings = [(about, _left(some, name)) for about, some in moment.book.sayings() if about != name]
    if not all([some for _, some in sayings]):
        raise BadAct("broken")
    book = Book(moment.book.side(), items, sayings)
    order, goal = _left(moment.order, name), _left(moment.goal, name)
    if broken(book, order) is not None or broken(book, goal) is not None:
        raise BadAct("broken")
    return Moment(book, order, goal, _left(moment.nailed, name))


def _say(moment, act):
    """Put a saying in behind all others."""
    saying = act[1:]
    try:
        book = with_sayings(moment.book, [saying])
    except BadBook:
        raise BadAct("form")
    if not keeps(book, moment.order, saying) or not keeps(book, moment.goal, saying):
        raise BadAct("broken")
    return Moment(book, moment.order, moment.goal, moment.nailed)


def _unsay(moment, act):
    """Take the saying with a number out."""
    _, number = act
    sayings = moment.book.sayings()
    if not is_number(number) or number >= len(sayings):
        raise BadAct("number")
    del sayings[number]
    book = Book(moment.book.side(), moment.book.all_items(), sayings)
    return Moment(book, moment.order, moment.goal, moment.nailed)


def _price(moment, act):
    """Give an item another price."""
    _, name, price = act
    _ask_item(moment, name)
    _ask_price(price)
    items = [(other, price if other == name else old) for other, old in moment.book.all_items()]
    return Moment(_with_items(moment.book, items), moment.order, moment.goal, moment.nailed)


def _nail(moment, act):
    """Nail an item."""
    _, name = act
    _ask_item(moment, name)
    if name in moment.nailed:
        raise BadAct("nailed")
    nailed = moment.nailed + (name,)
    if not is_uncrossed(nailed, moment.order, moment.goal):
        raise BadAct("crossed")
    return Moment(moment.book, moment.order, moment.goal, nailed)


def _free(moment, act):
    """Nail an item no more."""
    _, name = act
    _ask_item(moment, name)
    if name not in moment.nailed:
        raise BadAct("nailed")
    return Moment(moment.book, moment.order, moment.goal, _left(moment.nailed, name))


def _ask_item(moment, name):
    """Ask that a value of any kind is the name of an item."""
    if not moment.book.has_name(name):
        raise BadAct("item")


def _ask_price(price):
    """Ask that a value of any kind is a price."""
    if not is_number(price):
        raise BadAct("price")


def _left(names, name):
    """Return a tuple of names without one of them."""
    return tuple([other for other in names if other != name])


def _with_items(book, items):
    """Return the book with other items."""
    return Book(book.side(), items, book.sayings())


SIZES = {
    "put": 3, "goal": 2, "come": 5, "go": 2, "say": 3, "unsay": 2, "price": 3, "nail": 2, "free": 2,
}
STEPS = {
    "put": _put, "goal": _goal, "come": _come, "go": _go, "say": _say, "unsay": _unsay, "price": _price,
    "nail": _nail, "free": _free,
}
