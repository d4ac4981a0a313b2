"""A console, which reads lines for a house and answers them."""

from takenout.errors import BadAct, BadText, NothingDone, UnknownName
from takenout.lines import read_line
from takenout.parts import deed_words

DONE = "done"


class Console:
    """What does and asks at a house what lines tell."""

    def __init__(self, house):
        self._house = house

    def answer(self, line):
        """Do and ask what a line tells, and return the answer."""
        try:
            told = read_line(line)
        except BadText as error:
            return "no " + str(error.place)
        if told[0] not in ANSWERS:
            return _do(self._house, told)
        answer = ANSWERS[told[0]]
        return answer(self._house, told)


def _do(house, act):
    """Do an act."""
    try:
        house.do(act)
    except BadAct as error:
        return "no " + error.word
    return DONE


def _undo(house, _):
    """Take an act back."""
    try:
        house.undo()
    except NothingDone:
        return "no nothing"
    return DONE


def _redo(house, _):
    """Do an act again."""
    try:
        house.redo()
    except NothingDone:
        return "no nothing"
    return DONE


def _mark(house, told):
    """Set a mark."""
    house.mark(told[1])
    return DONE


def _since(house, told):
    """Tell what was done since a mark."""
    try:
        came, went, price = house.since(told[1])
    except UnknownName:
        return "no mark"
    return "; ".join([" ".join(["came", *came]), " ".join(["went", *went]), "costs " + str(price)])


def _owed(house, _):
    """Tell what is owed."""
    return str(house.owed())


def _account(house, _):
    """Tell the account."""
    paid, waste, given = house.account()
    return " ".join(["paid", str(paid), "waste", str(waste), "given", str(given)])


def _show(house, told):
    """Tell the names of the present order or of the goal."""
    return " ".join(house.order() if told[1] == "order" else house.goal())


def _next(house, _):
    """Tell a deed to do next."""
    deed = house.next_deed()
    return "none" if deed is None else " ".join(deed_words(deed))


ANSWERS = {
    "undo": _undo, "redo": _redo, "mark": _mark, "since": _since, "owed": _owed, "account": _account,
    "show": _show, "next": _next,
}
