"""Parts of forms that stand in several texts."""


def read_priced(reader):
    """Take NAME costs NUMBER and return the name and the number."""
    name = reader.take_name()
    reader.take("costs")
    return name, reader.take_number()


def read_saying(reader):
    """Take NAME needs NAME NAME* and return the saying."""
    name = reader.take_name()
    reader.take("needs")
    first = reader.take_name()
    return (name, (first,) + reader.take_names())


def read_deed(reader):
    """Take NAME PLACE and return the deed."""
    name = reader.take_name()
    return (name, read_place(reader))


def read_place(reader):
    """Take first, or behind NAME, and return None or the name."""
    if reader.take_one(("first", "behind")) == "first":
        return None
    return reader.take_name()


def deed_words(deed):
    """Return the lexemes by which a deed is told."""
    name, place = deed
    return ["put", name] + (["first"] if place is None else ["behind", place])
