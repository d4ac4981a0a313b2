"""A plain house, said as S10 says it, against which the tests hold the house of the package."""

from samples import kept, rows_of
from takenout.words import is_integer, is_word

SIZES = {"put": 3, "goal": 2, "come": 5, "go": 2, "say": 3, "unsay": 2, "price": 3, "nail": 2, "free": 2}


def put_in(order, name, place):
    """An order with a name put right behind a place, or ahead of all for None."""
    rest = [other for other in order if other != name]
    rest.insert(0 if place is None else rest.index(place) + 1, name)
    return tuple(rest)


class PlainHouse:
    """A house with lists of its own; none of it is shared with another one."""

    def __init__(self, side, items, sayings, order, goal=None, nailed=()):
        self.side = side
        self.items = list(items)
        self.sayings = list(sayings)
        self.order = tuple(order)
        self.goal = tuple(order) if goal is None else tuple(goal)
        self.nailed = set(nailed)

    def names(self):
        """The names of the items."""
        return [name for name, _ in self.items]

    def lets(self, order, sayings=None):
        """Whether an order keeps all sayings."""
        return all(kept(self.side, order, it) for it in (self.sayings if sayings is None else sayings))

    def straight(self, nailed, order, goal):
        """Whether nailed names stand in one sequence in two orders."""
        return [it for it in order if it in nailed] == [it for it in goal if it in nailed]

    def owed(self):
        """The least price that is owed, by all rows with all nailed names."""
        prices = dict(self.items)
        rows = [row for row in rows_of([self.order, self.goal]) if self.nailed <= set(row)]
        return sum(prices.values()) - max(sum(prices[it] for it in row) for row in rows)

    def word(self, act):
        """The word of S10.2 with which an act cannot be done, or None."""
        if not isinstance(act, tuple) or not act or not isinstance(act[0], str):
            return "form"
        if act[0] not in SIZES or SIZES[act[0]] != len(act):
            return "form"
        return getattr(self, act[0] + "_word")(*act[1:])

    def has(self, value):
        """Whether a value of any kind is an item."""
        return isinstance(value, str) and value in self.names()

    def put_word(self, item, place):
        if not self.has(item):
            return "item"
        if item in self.nailed:
            return "nailed"
        if place is not None and (not self.has(place) or place == item):
            return "place"
        return None if self.lets(put_in(self.order, item, place)) else "broken"

    def goal_word(self, order):
        if not isinstance(order, tuple) or not all(self.has(it) for it in order):
            return "order"
        if sorted(order) != sorted(self.names()):
            return "order"
        if not self.lets(order):
            return "broken"
        return None if self.straight(self.nailed, self.order, order) else "crossed"

    def come_word(self, name, price, place, goal_place):
        if not is_word(name) or self.has(name):
            return "name"
        if not is_integer(price) or price < 0:
            return "price"
        return None if all(it is None or self.has(it) for it in (place, goal_place)) else "place"

    def left_sayings(self, item):
        """The sayings that are left when an item goes."""
        return [
            (name, tuple(it for it in some if it != item)) for name, some in self.sayings if name != item
        ]

    def go_word(self, item):
        if not self.has(item):
            return "item"
        left = self.left_sayings(item)
        if any(some == () for _, some in left):
            return "broken"
        orders = [tuple(it for it in order if it != item) for order in (self.order, self.goal)]
        return None if all(self.lets(order, left) for order in orders) else "broken"

    def say_word(self, name, some):
        if not self.has(name) or not isinstance(some, tuple) or some == ():
            return "form"
        if not all(self.has(it) for it in some) or name in some or len(set(some)) < len(some):
            return "form"
        return None if all(kept(self.side, it, (name, some)) for it in (self.order, self.goal)) else "broken"

    def unsay_word(self, number):
        return None if is_integer(number) and 0 <= number < len(self.sayings) else "number"

    def price_word(self, item, price):
        if not self.has(item):
            return "item"
        return None if is_integer(price) and price >= 0 else "price"

    def nail_word(self, item):
        if not self.has(item):
            return "item"
        if item in self.nailed:
            return "nailed"
        return None if self.straight(self.nailed | {item}, self.order, self.goal) else "crossed"

    def free_word(self, item):
        if not self.has(item):
            return "item"
        return None if item in self.nailed else "nailed"

    def behind(self, act):
        """The house behind an act that can be done."""
        house = PlainHouse(self.side, self.items, self.sayings, self.order, self.goal, self.nailed)
        word, *rest = act
        if word == "put":
            house.order = put_in(self.order, *rest)
        if word == "goal":
            house.goal = rest[0]
        if word == "come":
            name, price, place, goal_place = rest
            house.items.append((name, price))
            house.order = put_in(self.order, name, place)
            house.goal = put_in(self.goal, name, goal_place)
        if word == "go":
            house.items = [it for it in self.items if it[0] != rest[0]]
            house.sayings = self.left_sayings(rest[0])
            house.order = tuple(it for it in self.order if it != rest[0])
            house.goal = tuple(it for it in self.goal if it != rest[0])
            house.nailed.discard(rest[0])
        if word == "say":
            house.sayings.append((rest[0], rest[1]))
        if word == "unsay":
            del house.sayings[rest[0]]
        if word == "price":
            house.items = [(name, rest[1] if name == rest[0] else price) for name, price in self.items]
        if word == "nail":
            house.nailed.add(rest[0])
        if word == "free":
            house.nailed.discard(rest[0])
        return house


def account_of(houses, acts):
    """The account of plain houses, one more than the acts that lie between them."""
    paid = waste = given = 0
    for ahead, act, behind in zip(houses, acts, houses[1:]):
        if act[0] == "put":
            cost = dict(ahead.items)[act[1]]
            paid += cost
            waste += cost + behind.owed() - ahead.owed()
        else:
            given += behind.owed() - ahead.owed()
    return (paid, waste, given)


def draw_act(draw, house, names="abcdef"):
    """A drawn act, often one that can be done, near a plain house."""
    word = draw.choice(list(SIZES))
    name = draw.choice(house.names() or list(names)) if draw.randrange(6) else draw.choice(names)
    place = draw.choice([None, *house.names(), *house.names(), draw.choice(names)])
    if word == "put":
        return ("put", name, place)
    if word == "goal":
        order = list(house.goal)
        for _ in range(draw.randrange(1, 3) if order else 0):
            order.insert(draw.randrange(len(order)), order.pop(draw.randrange(len(order))))
        if draw.randrange(8) == 0:
            order = draw.choice([order[:-1], order + ["a"], [*order[:-1], "f"]])
        return ("goal", tuple(order))
    if word == "come":
        goal_place = draw.choice([None, *house.names(), *house.names(), draw.choice(names)])
        return ("come", draw.choice(names), draw.choice([0, 1, 2, 5, 10 ** 30, 3, -1]), place, goal_place)
    if word == "say":
        some = draw.sample(names, draw.randrange(0, 3))
        return ("say", name, tuple(some))
    if word == "unsay":
        return ("unsay", draw.randrange(-1, len(house.sayings) + 1))
    if word == "price":
        return ("price", name, draw.choice([0, 1, 2, 3, 7, 10 ** 30, -1]))
    return (word, name)
