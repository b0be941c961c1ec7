"""Lots of ways: which are what sayings can say, and by which sayings."""

from soonerornot.refusals import first_refusing, fullest_sayings, unlike_pairs
from soonerornot.sides import renamed
from soonerornot.ways import ALL_WAYS, way_order


def is_said(lot):
    """Return whether a lot is said."""
    return hull_of_lot(lot) == lot


def is_clear(lot):
    """Return whether a lot is clear."""
    return _are_all_refused(_not_later_sayings() + _not_at_once_sayings(), lot)


def is_plain(lot):
    """Return whether a lot is plain."""
    return _are_all_refused(_not_later_sayings(), lot)


def hull_of_lot(lot):
    """Return the hull of a lot."""
    return tuple([k for k in ALL_WAYS if refusing_saying(lot, k) is None])


def refusing_saying(lot, k):
    """Return a refusing saying for a lot and a way, or None if there is none."""
    return _refusing(fullest_sayings(way_order(k)), lot, k)


def sayings_of_lot(lot, s, t):
    """Return sayings of a lot for two stretches of four unlike moments, a tuple."""
    found = [refusing_saying(lot, k) for k in ALL_WAYS]
    return tuple([renamed(saying, (*s, *t)) for saying in found if saying is not None])


def _refusing(sayings, lot, k):
    return first_refusing(sayings, [way_order(one) for one in lot], way_order(k))


def _are_all_refused(sayings, lot):
    """Tell whether each way that is not in a lot is refused by one of some sayings."""
    return all(k in lot or _refusing(sayings, lot, k) is not None for k in ALL_WAYS)


def _not_later_sayings():
    return [((), pair) for pair in unlike_pairs(4)]


def _not_at_once_sayings():
    return [((pair,), None) for pair in unlike_pairs(4) if pair[0] < pair[1]]
