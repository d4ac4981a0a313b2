"""Stocks of tables: of which sides they are, and the books that their conditions make."""

from takenout.books import AHEAD, BEHIND, Book
from takenout.tables import LETTERS, is_side_table, kept_sayings


def sides_of(stock):
    """Return the list of the sides of which all tables of a stock are."""
    return [side for side in (BEHIND, AHEAD) if all([is_side_table(table, side) for table in stock])]


def is_never_dearer(stock):
    """Return whether sayings alone can make the conditions of a stock, all with one side."""
    return bool(sides_of(stock))


def saying_book(stock, items, conditions):
    """Return the book with all sayings that the conditions of a stock that is never dearer make."""
    side = sides_of(stock)[0]
    sayings = []
    for table, three in conditions:
        names = dict(zip(LETTERS, three))
        for letter, some in kept_sayings(table, side):
            sayings.append((names[letter], tuple([names[other] for other in some])))
    return Book(side, items, sayings)
