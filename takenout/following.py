"""Which sayings follow from a book that has an order."""

from takenout.books import Book
from takenout.kinds import is_listed
from takenout.laying import all_held, by_side, laid_row, others
from takenout.orders import wrong_member


def follows(book, saying):
    """Return whether all orders of the book keep a saying."""
    name, some = saying
    return name not in _laid_without(book, some)


def follow_paper(book, saying):
    """Return a follow paper for a saying, or None if it does not follow."""
    name, some = saying
    row = _laid_without(book, some)
    if name in row:
        return None
    # What cannot be laid without some is held up by itself and by some: the greatest paper.
    return others(book, row + list(some))


def judge_follow(book, saying, value):
    """Return whether a value of any kind is a follow paper for a saying."""
    if not is_listed(value) or wrong_member(book, value) is not None:
        return False
    name, some = saying
    if name not in value or any([other in value for other in some]):
        return False
    return all_held(book, value, list(value) + list(some))


def against(book, saying):
    """Return an order of the book that does not keep a saying, or None if it follows."""
    name, some = saying
    row = _laid_without(book, some)
    if name not in row:
        return None
    return by_side(book, laid_row(book, book.names(), row))


def lean_book(book):
    """Return a book with the same orders and none of its sayings following from the others."""
    kept = book.sayings()
    at = 0
    while at < len(kept):
        rest = kept[:at] + kept[at + 1:]
        if follows(Book(book.side(), book.all_items(), rest), kept[at]):
            kept = rest
        else:
            at += 1
    return Book(book.side(), book.all_items(), kept)


def _laid_without(book, some):
    """Return the row of what is laid within all names but some."""
    return laid_row(book, others(book, some), [])
