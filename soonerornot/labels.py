"""Which ways two stretches of a book can have, and papers for them."""

from soonerornot.books import is_pair, is_placing
from soonerornot.derivations import derivation, judge_derivation
from soonerornot.placings import keeps_book
from soonerornot.settled import told_placing
from soonerornot.ways import ALL_WAYS, way_of, way_order


def way_book(book, s, t, way):
    """Return the way's book, and the way's facts."""
    n, sayings = book
    place = {moment: member for moment, member in zip((*s, *t), way_order(way))}
    moments = sorted(place)
    apart = [(a, b) for a in moments for b in moments if a < b and place[a] != place[b]]
    facts = [(u, v) for u in moments for v in moments if u != v and place[u] <= place[v]]
    return ((n, sayings + tuple([((tie,), None) for tie in apart])), tuple(facts))


def label(book, s, t):
    """Return the label of two stretches, a lot."""
    return tuple([way for way in ALL_WAYS if placing_with(book, s, t, way) is not None])


def placing_with(book, s, t, way):
    """Return a placing that keeps a book and has s to t in a way, or None if there is none."""
    wider, facts = way_book(book, s, t, way)
    return told_placing(wider, facts)


def label_paper(book, s, t):
    """Return a label paper."""
    return tuple([_paper_for(book, s, t, way) for way in ALL_WAYS])


def judge_label(book, s, t, value):
    """Return None if a value, which may be anything, is a label paper, and otherwise the first fault."""
    if not _is_formed(book[0], value):
        return ("form",)
    for way, (word, paper) in enumerate(value):
        if word == "can":
            fault = _placing_fault(book, s, t, way, paper)
        else:
            fault = _derivation_fault(book, s, t, way, paper)
        if fault is not None:
            return fault
    return None


def _paper_for(book, s, t, way):
    placing = placing_with(book, s, t, way)
    if placing is not None:
        return ("can", placing)
    wider, facts = way_book(book, s, t, way)
    return ("never", derivation(wider, facts, None))


def _is_formed(n, value):
    if not isinstance(value, tuple) or len(value) != len(ALL_WAYS):
        return False
    return all(_is_member(n, member) for member in value)


def _is_member(n, value):
    if not is_pair(value):
        return False
    return value[0] == "never" or (value[0] == "can" and is_placing(n, value[1]))


def _placing_fault(book, s, t, way, placing):
    if not keeps_book(book, placing):
        return ("broken", way)
    # It lets both stretches, as it keeps the book.
    return None if way_of(placing, s, t) == way else ("way", way)


def _derivation_fault(book, s, t, way, value):
    wider, facts = way_book(book, s, t, way)
    return None if judge_derivation(wider, facts, None, value) is None else ("derivation", way)
