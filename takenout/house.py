"""A house: an order that is led to a goal while things come and go, with an account."""

from takenout.acts import moment_behind
from takenout.errors import BadAct, NothingDone, UnknownName
from takenout.laying import in_order
from takenout.moments import Moment, next_at, owed_at, told_since


class House:
    """A book with its present order and a goal, changed by acts that can be taken back."""

    def __init__(self, book, order):
        # Each step is an act, the moment behind it and the account then; the first one has no act.
        self._steps = [(None, Moment(book, tuple(order), tuple(order), ()), (0, 0, 0))]
        self._undone = []
        self._marks = {}

    def book(self):
        """Return the book."""
        return self._now().book

    def order(self):
        """Return the present order."""
        return self._now().order

    def goal(self):
        """Return the goal."""
        return self._now().goal

    def nailed(self):
        """Return the list of the names of the nailed items, in the order of the book."""
        return in_order(self._now().book, self._now().nailed)

    def owed(self):
        """Return the least price to the goal without deeds of nailed items."""
        return owed_at(self._now())

    def account(self):
        """Return what was paid, all waste, and what was given."""
        return self._steps[-1][2]

    def act_word(self, act):
        """Return the word with which an act of any kind cannot be done now, or None."""
        try:
            moment_behind(self._now(), act)
        except BadAct as error:
            return error.word
        return None

    def do(self, act):
        """Do an act of any kind; return how many acts are done then."""
        behind = moment_behind(self._now(), act)
        self._steps.append((act, behind, _account_behind(self.account(), act, self._now(), behind)))
        self._undone = []
        return self._count()

    def undo(self):
        """Take the last act back; return how many acts are done then."""
        if self._count() == 0:
            raise NothingDone()
        self._undone.append(self._steps.pop())
        return self._count()

    def redo(self):
        """Do the act that was taken back last again; return how many acts are done then."""
        if not self._undone:
            raise NothingDone()
        self._steps.append(self._undone.pop())
        return self._count()

    def acts(self):
        """Return the list of the acts done."""
        return [step[0] for step in self._steps[1:]]

    def mark(self, name):
        """Keep how the house is now under a name."""
        self._marks[name] = self._now()

    def since(self, name):
        """Return which names came and went since a mark, and what the way costs for all others."""
        if not isinstance(name, str) or name not in self._marks:
            raise UnknownName(name)
        return told_since(self._marks[name], self._now())

    def marks(self):
        """Return the list of the names of the marks, sorted."""
        return sorted(self._marks)

    def next_deed(self):
        """Return a deed with which the shortest of the cheapest scripts to the goal begin, or None."""
        return next_at(self._now())

    def twin(self):
        """Return a house that is as this one is now, and goes its own way from then on."""
        house = House(self.book(), self.order())
        house._steps = list(self._steps)
        house._undone = list(self._undone)
        house._marks = dict(self._marks)
        return house

    def _now(self):
        """Return how the house is now."""
        return self._steps[-1][1]

    def _count(self):
        """Return how many acts are done."""
        return len(self._steps) - 1


def _account_behind(account, act, ahead, behind):
    """Return the account behind an act, by the moments ahead of it and behind it."""
    paid, waste, given = account
    more = owed_at(behind) - owed_at(ahead)
    if act[0] == "put":
        cost = ahead.book.price(act[1])
        return (paid + cost, waste + cost + more, given)
    return (paid, waste, given + more)
