"""Texts of books and of orders."""

from takenout.books import AHEAD, BEHIND, Book
from takenout.reading import Reader
from takenout.writing import written


def book_text(book):
    """Return the written text of a book."""
    row = ["book", book.side(), "{"]
    for name, price in book.all_items():
        row.extend(["item", name, "costs", str(price), ";"])
    for name, some in book.sayings():
        row.extend(["saying", name, "needs", *some, ";"])
    row.append("}")
    return written(row)


def order_text(order):
    """Return the written text of an order."""
    return written(["order", "{", *order, "}"])


def read_book(text):
    """Return the book of a text."""
    reader = Reader(text)
    reader.take("book")
    side = AHEAD if reader.sees(AHEAD) else BEHIND
    reader.take(side)
    reader.take("{")
    items = []
    while reader.sees("item"):
        items.append(_read_item(reader))
    sayings = []
    while reader.sees("saying"):
        sayings.append(_read_saying(reader))
    reader.take("}")
    reader.take_end()
    return Book(side, items, sayings)


def read_order(text):
    """Return the words of the text of an order, of which one may stand there twice."""
    reader = Reader(text)
    reader.take("order")
    reader.take("{")
    order = reader.take_names("}")
    reader.take_end()
    return order


def _read_item(reader):
    """Take an item and return it."""
    reader.take("item")
    name = reader.take_name()
    reader.take("costs")
    price = reader.take_number()
    reader.take(";")
    return (name, price)


def _read_saying(reader):
    """Take a saying and return it."""
    reader.take("saying")
    name = reader.take_name()
    reader.take("needs")
    first = reader.take_name()
    return (name, (first,) + reader.take_names(";"))
