"""Consoles, which read lines for a desk and answer them."""

from soonerornot.acts import ACT_WORDS
from soonerornot.errors import BadAct, BadAsk, BadText, NothingDone, UnknownName
from soonerornot.tellings import read_telling


class Console:
    """Does and asks at a desk what lines tell."""

    def __init__(self, desk):
        self._desk = desk

    def answer(self, line):
        """Do or ask what a line tells, and return the answer."""
        try:
            telling = read_telling(line)
        except BadText as wrong:
            return f"no {wrong.place}"
        try:
            return _answer_to(self._desk, telling)
        except (BadAct, BadAsk) as refused:
            return f"no {refused.word}"
        except NothingDone:
            return "no nothing"
        except UnknownName:
            return "no mark"


def _answer_to(desk, telling):
    """Do or ask what was told, and return the answer; the desk's errors go on."""
    word = telling[0]
    if word in ACT_WORDS:
        desk.do(telling)
    elif word == "undo":
        desk.undo()
    elif word == "redo":
        desk.redo()
    elif word == "mark":
        desk.mark(telling[1])
    else:
        return _answer_of(desk, word, telling[1:])
    return "done"


def _answer_of(desk, word, told):
    """Return the answer to a question."""
    if word == "since":
        return str(desk.since(*told))
    if word == "can":
        return _yes_or_no(desk.can())
    if word == "follows":
        return _yes_or_no(desk.follows(*told))
    return " ".join([str(one) for one in _listed(desk, word, told)])


def _listed(desk, word, told):
    """Return what is to be told with blanks between."""
    if word == "placed":
        return desk.placed()
    if word == "between":
        return desk.between(*told)
    if word == "ways":
        return desk.ways(*told)
    names, stretches, lines = desk.sheet()
    if word == "moments":
        return names
    if word == "stretches":
        return stretches
    return [line[0] for line in lines]


def _yes_or_no(truth):
    return "yes" if truth else "no"
