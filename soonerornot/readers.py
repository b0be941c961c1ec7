"""Readers, which go along the lexemes of a text."""

from soonerornot.errors import BadText
from soonerornot.lexemes import scan
from soonerornot.words import is_free_name


class Reader:
    """Takes the lexemes of a text one by one, and refuses the first one that can't stand where it does."""

    def __init__(self, text):
        found, wrong = scan(text)
        self.found = found
        self.at = 0
        self.clean = wrong is None
        self.stop = len(text) if wrong is None else wrong

    def ahead(self):
        """Return the next lexeme, or the empty string if there is none."""
        if self.at == len(self.found):
            return ""
        return self.found[self.at][1]

    def refuse(self):
        """Raise BadText: no text of the form goes on with what comes next."""
        if self.at == len(self.found):
            raise BadText(self.stop)
        raise BadText(self.found[self.at][2])

    def take(self, *wanted):
        """Take the next lexeme, which must be one of those wanted, and return it."""
        lexeme = self.ahead()
        if lexeme not in wanted:
            self.refuse()
        self.at += 1
        return lexeme

    def take_name(self):
        """Take the next lexeme, which must be a NAME, and return it."""
        lexeme = self.ahead()
        if not is_free_name(lexeme):
            self.refuse()
        self.at += 1
        return lexeme

    def finish(self):
        """Raise BadText if something stands behind what was taken."""
        if self.at < len(self.found) or not self.clean:
            self.refuse()
