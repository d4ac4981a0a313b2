"""Reading a text lexeme by lexeme, up to its first wrong place."""

from takenout.errors import BadText
from takenout.lexemes import NUMBER, WORD, scanned


class Reader:
    """The lexemes of a text, taken one after another by a form that asks for them."""

    def __init__(self, text):
        found, stop = scanned(text)
        self._found = found
        self._taken = 0
        self._whole = stop is None
        self._end = len(text) if stop is None else stop

    def sees(self, lexeme):
        """Return whether this lexeme comes next."""
        return self._taken < len(self._found) and self._found[self._taken][1] == lexeme

    def take(self, lexeme):
        """Take this lexeme, which has to come next."""
        self.take_one((lexeme,))

    def take_one(self, lexemes):
        """Take one of these lexemes, which has to come next, and return it."""
        for lexeme in lexemes:
            if self.sees(lexeme):
                self._taken += 1
                return lexeme
        raise BadText(self._wrong_place())

    def take_name(self):
        """Take a word and return it."""
        return self._take_sort(WORD)

    def take_names(self):
        """Take all words that come next and return the tuple of them."""
        names = []
        while self._sees_sort(WORD):
            names.append(self.take_name())
        return tuple(names)

    def take_number(self):
        """Take a number and return it."""
        return int(self._take_sort(NUMBER))

    def take_end(self):
        """Ask that nothing comes any more."""
        if self._taken < len(self._found) or not self._whole:
            raise BadText(self._wrong_place())

    def _take_sort(self, sort):
        """Take a lexeme of a sort and return it."""
        if not self._sees_sort(sort):
            raise BadText(self._wrong_place())
        lexeme = self._found[self._taken][1]
        self._taken += 1
        return lexeme

    def _sees_sort(self, sort):
        """Return whether a lexeme of a sort comes next."""
        return self._taken < len(self._found) and self._found[self._taken][0] == sort

    def _wrong_place(self):
        """Return the place of what comes next: a lexeme, a wrong sign or the end."""
        if self._taken < len(self._found):
            return self._found[self._taken][2]
        return self._end
