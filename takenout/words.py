"""What is a word, an integer, a number."""

LETTERS = "abcdefghijklmnopqrstuvwxyz"
DIGITS = "0123456789"
LONGEST = 12


def is_word(value):
    """Return whether a value of any kind is a word."""
    if not isinstance(value, str) or not 1 <= len(value) <= LONGEST:
        return False
    return value[0] in LETTERS and all([sign in LETTERS or sign in DIGITS for sign in value])


def is_integer(value):
    """Return whether a value of any kind is an integer; True and False are none."""
    return isinstance(value, int) and not isinstance(value, bool)


def is_number(value):
    """Return whether a value of any kind is an integer of at least 0."""
    return is_integer(value) and value >= 0
