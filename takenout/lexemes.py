"""The lexemes of a text: words, numbers and signs."""

from takenout.errors import BadText
from takenout.words import DIGITS, LETTERS, LONGEST

WORD = "word"
NUMBER = "number"
SIGN = "sign"
GAPS = " \n"
SIGNS = "{};"


def lexemes(text):
    """Return the lexemes of a text as tuples (sort, lexeme, place)."""
    found, stop = scanned(text)
    if stop is not None:
        raise BadText(stop)
    return found


def scanned(text):
    """Return the lexemes up to the first sign that begins none, and its place or None."""
    found = []
    at = 0
    while at < len(text):
        if text[at] in GAPS:
            at += 1
        else:
            sort, end = _lexeme_at(text, at)
            if sort is None:
                return found, at
            found.append((sort, text[at:end], at))
            at = end
    return found, None


def _lexeme_at(text, at):
    """Return the sort of the lexeme that begins at a place, or None, and where it ends."""
    sign = text[at]
    if sign in SIGNS:
        return SIGN, at + 1
    if sign == "0":
        return NUMBER, at + 1
    if sign in DIGITS:
        return NUMBER, _end_of(text, at, DIGITS)
    if sign in LETTERS:
        end = _end_of(text, at, LETTERS + DIGITS)
        if end - at <= LONGEST:
            return WORD, end
    return None, at


def _end_of(text, at, signs):
    """Return where the signs of one kind that follow each other from a place on end."""
    end = at
    while end < len(text) and text[end] in signs:
        end += 1
    return end
