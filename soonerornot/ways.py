"""The thirteen ways in which two stretches can stand to one another."""

from soonerornot.errors import UnknownName
from soonerornot.orders import left_of, left_order
from soonerornot.placings import order_of
from soonerornot.sheets import WAYS

# By their numbers: the orders of the begin of s, the end of s, the begin of t and the end of t.
WAY_ORDERS = (
    (0, 1, 0, 1), (0, 1, 0, 2), (0, 1, 1, 2), (0, 1, 2, 3), (0, 2, 0, 1), (0, 2, 1, 2), (0, 2, 1, 3),
    (0, 3, 1, 2), (1, 2, 0, 1), (1, 2, 0, 2), (1, 2, 0, 3), (1, 3, 0, 2), (2, 3, 0, 1),
)
ALL_WAYS = (0, 1, 2, 3, 4, 5, 6, 7, 8, 9, 10, 11, 12)


def way_words():
    """Return the list of the words of the thirteen ways."""
    return list(WAYS)


def way_named(word):
    """Return the number of the way with a word."""
    if word not in WAYS:
        raise UnknownName(word)
    return WAYS.index(word)


def way_order(k):
    """Return the order of a way."""
    return WAY_ORDERS[k]


def way_of(placing, s, t):
    """Return the number of the way of a stretch to another one in a placing that lets both."""
    return WAY_ORDERS.index(left_order(placing, (*s, *t)))


def turned(k):
    """Return the number of a way turned."""
    return WAY_ORDERS.index(left_of(WAY_ORDERS[k], (2, 3, 0, 1)))


def turned_lot(lot):
    """Return a lot turned."""
    return tuple(sorted([turned(k) for k in lot]))


def about_lot(lot):
    """Return a lot turned about."""
    return tuple(sorted([_about(k) for k in lot]))


def _about(k):
    s_begin, s_end, t_begin, t_end = WAY_ORDERS[k]
    return WAY_ORDERS.index(order_of((-s_end, -s_begin, -t_end, -t_begin)))
