"""The errors of the package, those of all its parts."""


class OutError(ValueError):
    """What the package cannot do with what it was passed."""


class NoOrder(OutError):
    """A book has no order; stuck is its greatest stuck set."""

    def __init__(self, stuck):
        self.stuck = tuple(stuck)


class BadBook(OutError):
    """What should be a book is none; path leads to its first wrong part."""

    def __init__(self, path):
        self.path = tuple(path)


class BadOrder(OutError):
    """What should be an order is none; path leads to its first wrong part."""

    def __init__(self, path):
        self.path = tuple(path)


class BadDeed(OutError):
    """A deed cannot be done; word tells why."""

    def __init__(self, word):
        self.word = word


class BadScript(OutError):
    """A script cannot be done; number is that of its first wrong member."""

    def __init__(self, number):
        self.number = number


class NotEqual(OutError):
    """Two books differ in what should be equal."""


class Crossed(OutError):
    """Two nailed names stand in one sequence here, and in the other one there."""

    def __init__(self, one, other):
        self.one = one
        self.other = other


class TooGreat(OutError):
    """A number is not less than how many there are, or there are too many."""


class NothingDone(OutError):
    """There is no act to take back, or to do again."""


class BadText(OutError):
    """A text has not the form that is read; place is its first wrong place."""

    def __init__(self, place):
        self.place = place


class BadAct(OutError):
    """An act cannot be done; word tells why."""

    def __init__(self, word):
        self.word = word


class NameMissing(LookupError):
    """A name was asked for that is not there."""


class UnknownName(NameMissing):
    """No item and no mark has this name."""

    def __init__(self, name):
        self.name = name
