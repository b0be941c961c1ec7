"""Spare sayings, thin lots, and in what two books are unlike or alike."""

from soonerornot.alike import are_alike, first_apart
from soonerornot.books import is_pair, is_placing, is_triple
from soonerornot.placings import keeps, keeps_book
from soonerornot.settled import follows, judge_settled, settle
from soonerornot.whys import book_of_lot, is_lot
from soonerornot.words import is_number


def spare(book):
    """Return the ascending list of the numbers of the spare sayings."""
    every = tuple(range(len(book[1])))
    return [k for k in every if _is_spare(book, every, k)]


def thin_lot(book):
    """Return a thin lot of a book."""
    lot = tuple(range(len(book[1])))
    # Once is enough: what is not spare among more sayings is not among fewer.
    for k in range(len(book[1]) - 1, -1, -1):
        if _is_spare(book, lot, k):
            lot = _without(lot, k)
    return lot


def judge_thin(book, value):
    """Return whether a value, which may be anything, is a thin lot."""
    if not is_lot(book, value) or not are_alike(book_of_lot(book, value), book):
        return False
    return not any(_is_spare(book, value, k) for k in value)


def difference(one, other):
    """Return a difference of two books, or None if they are alike."""
    for i, apart in enumerate([first_apart(other, one), first_apart(one, other)]):
        if apart is not None:
            return (i, *apart)
    return None


def judge_difference(one, other, value):
    """Return whether a value, which may be anything, is a difference of two books."""
    if not is_triple(value) or not all(is_number(member) for member in value[:2]):
        return False
    i, k, placing = value
    if i > 1 or not is_placing(one[0], placing):
        return False
    broken, kept = (one, other) if i == 0 else (other, one)
    return k < len(broken[1]) and not keeps(broken[1][k], placing) and keeps_book(kept, placing)


def likeness(one, other):
    """Return a likeness of two books, or None if they are not alike."""
    if not are_alike(one, other):
        return None
    return (_derivations(one, other), _derivations(other, one))


def judge_likeness(one, other, value):
    """Return whether a value, which may be anything, is a likeness of two books."""
    if not is_pair(value):
        return False
    return _are_derivations(one, other, value[0]) and _are_derivations(other, one, value[1])


def _without(lot, k):
    return tuple([i for i in lot if i != k])


def _is_spare(book, lot, k):
    """Tell whether a saying of a lot is spare in the lot's book."""
    return follows(book_of_lot(book, _without(lot, k)), book[1][k])


def _derivations(book, source):
    """Return the tuple of a derivation for each saying of a book from another one, from which it follows."""
    return tuple([settle(source, saying)[1] for saying in book[1]])


def _are_derivations(book, source, value):
    """Tell whether a value is a tuple of a derivation for each saying of a book from another one."""
    if not isinstance(value, tuple) or len(value) != len(book[1]):
        return False
    return all(judge_settled(source, saying, ("follows", paper)) is None for saying, paper in zip(book[1], value))
