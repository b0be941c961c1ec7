"""Desks, at which a sheet is changed by acts, and its book is asked about."""

from soonerornot.acts import sheet_after, word_against
from soonerornot.alike import follows_all
from soonerornot.errors import BadAct, BadAsk, NothingDone, UnknownName
from soonerornot.labels import label
from soonerornot.layouts import book_of_sheet, line_sayings
from soonerornot.settled import can_keep, told_placing, what_can_be
from soonerornot.sheets import is_line, moments_of, number_of, stretch_ends
from soonerornot.ways import way_words
from soonerornot.words import is_name

# What stands between two moments, by the words of what_can_be.
BETWEEN = {"before": "<", "at once": "=", "behind": ">"}


class Desk:
    """A sheet, and the acts that were done to it.

    _sheets has the sheet behind each number of acts, so one more than _acts. _undone has the acts that can be
    done again, the next one last. _known has the answers that were looked for, by a book and some sayings.
    """

    def __init__(self):
        self._sheets = [((), (), ())]
        self._acts = []
        self._undone = []
        self._marks = {}
        self._known = {}

    def sheet(self):
        """Return the sheet."""
        return self._sheets[-1]

    def act_word(self, act):
        """Return the word with which an act, which may be anything, can't be done now, or None."""
        return word_against(self.sheet(), act)

    def do(self, act):
        """Do an act, which may be anything, and return how many acts are done then; raise BadAct(word)."""
        word = self.act_word(act)
        if word is not None:
            raise BadAct(word)
        self._undone = []
        return self._put_down(act)

    def undo(self):
        """Take the last act back, and return how many acts are done then; raise NothingDone()."""
        if not self._acts:
            raise NothingDone()
        self._sheets.pop()
        self._undone.append(self._acts.pop())
        return len(self._acts)

    def redo(self):
        """Do the act that was taken back last again, and return how many are done then; raise NothingDone()."""
        if not self._undone:
            raise NothingDone()
        return self._put_down(self._undone.pop())

    def acts(self):
        """Return the list of the acts done."""
        return list(self._acts)

    def can(self):
        """Return whether the book can be kept."""
        return can_keep(self._book())

    def placed(self):
        """Return the told placing of the book; raise BadAsk("never")."""
        placing = told_placing(self._book(), ())
        if placing is None:
            raise BadAsk("never")
        return placing

    def follows(self, line):
        """Return whether a line, which may be anything, follows; raise BadAsk("line")."""
        if not is_line(self.sheet(), line):
            raise BadAsk("line")
        book = self._book()
        sayings = tuple(line_sayings(self.sheet(), line))
        asked = (book, sayings)
        if asked not in self._known:
            self._known[asked] = follows_all(book, (book[0], sayings))
        return self._known[asked]

    def between(self, one, other):
        """Return the list of the signs that can be between two terms, which may be anything; raise BadAsk("term")."""
        terms = moments_of(self.sheet())
        if one not in terms or other not in terms:
            raise BadAsk("term")
        if one == other:
            return ["="] if self.can() else []
        u, v = number_of(self.sheet(), one), number_of(self.sheet(), other)
        return [BETWEEN[word] for word in what_can_be(self._book(), u, v)]

    def ways(self, one, other):
        """Return the list of the ways that can be of two stretches, whose names may be any; raise BadAsk("name")."""
        stretches = self.sheet()[1]
        if one not in stretches or other not in stretches or one == other:
            raise BadAsk("name")
        s, t = stretch_ends(self.sheet(), one), stretch_ends(self.sheet(), other)
        words = way_words()
        return [words[way] for way in label(self._book(), s, t)]

    def work(self):
        """Return how many unlike pairs of a book and sayings were looked for."""
        return len(self._known)

    def mark(self, name):
        """Set a mark."""
        self._marks[name] = len(self._acts)

    def since(self, name):
        """Return how many acts more are done than at a mark, whose name may be anything; raise UnknownName(name)."""
        if not is_name(name) or name not in self._marks:
            raise UnknownName(name)
        return len(self._acts) - self._marks[name]

    def marks(self):
        """Return the ascending list of the names of the marks."""
        return sorted(self._marks)

    def twin(self):
        """Return a desk that is as this one is now."""
        other = Desk()
        other._sheets = list(self._sheets)
        other._acts = list(self._acts)
        other._undone = list(self._undone)
        other._marks = dict(self._marks)
        # The keys have tuples in them, so they are put into the new dict one by one.
        other._known = {asked: self._known[asked] for asked in self._known}
        return other

    def _book(self):
        return book_of_sheet(self.sheet())

    def _put_down(self, act):
        """Change the sheet by an act that can be done, and return how many acts are done then."""
        self._sheets.append(sheet_after(self.sheet(), act))
        self._acts.append(act)
        return len(self._acts)
