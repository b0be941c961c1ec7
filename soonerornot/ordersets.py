"""Sets of orders: which orders they refuse, and what books can say of them.

A set is an ascending tuple of orders of n moments, each once; it is called members here.
"""

from soonerornot.books import is_order, is_pair, is_unlike_pair
from soonerornot.limits import check_not_above
from soonerornot.orders import orders
from soonerornot.placings import keeps_book
from soonerornot.refusals import backward_pairs, first_refusing, fullest_sayings, ties_of

MOST_ASKED = 5
MOST_OF_ALL = 4


def refusing(n, members, order):
    """Return a refusing saying for an order and a set, or None if it is not refused."""
    check_not_above(n, MOST_ASKED)
    return first_refusing(fullest_sayings(order), members, order)


def witnesses(n, members, order):
    """Return witnesses for an order that is not in a set, or None if there are none."""
    check_not_above(n, MOST_ASKED)
    tied = [member for member in members if _has_ties(member, order)]
    found = []
    for u, v in backward_pairs(order):
        fitting = [member for member in tied if member[v] < member[u]]
        if not fitting:
            return None
        found.append(((u, v), fitting[0]))
    return tuple(found) if found else None


def judge_witnesses(n, members, order, value):
    """Return None if a value, which may be anything, is witnesses for an order, and otherwise the first fault."""
    check_not_above(n, MOST_ASKED)
    if not _is_formed(n, value):
        return ("form",)
    if [pair for pair, _ in value] != backward_pairs(order):
        return ("pairs",)
    for k, (_, shown) in enumerate(value):
        if shown not in members:
            return ("set", k)
    for k, (_, shown) in enumerate(value):
        if not _has_ties(shown, order):
            return ("ties", k)
    for k, ((u, v), shown) in enumerate(value):
        if shown[v] >= shown[u]:
            return ("earlier", k)
    return None


def hull(n, members):
    """Return the hull of a set."""
    check_not_above(n, MOST_OF_ALL)
    return tuple([order for order in orders(n) if refusing(n, members, order) is None])


def passes(n, members):
    """Return whether a set is its own hull, and so what some book says."""
    return hull(n, members) == tuple(members)


def book_of(n, members):
    """Return a book of n moments that says just the hull of a set."""
    check_not_above(n, MOST_OF_ALL)
    found = [refusing(n, members, order) for order in orders(n)]
    # A dict's keys: one saying may refuse several orders.
    sayings = {saying: True for saying in found if saying is not None}
    return (n, tuple(sayings))


def said(book):
    """Return the set of all orders that keep a book."""
    check_not_above(book[0], MOST_OF_ALL)
    return tuple([order for order in orders(book[0]) if keeps_book(book, order)])


def _has_ties(member, order):
    """Tell whether an order has all ties of another one, perhaps more."""
    return all(member[a] == member[b] for a, b in ties_of(order))


def _is_formed(n, value):
    if not isinstance(value, tuple) or not value:
        return False
    return all(is_pair(member) and is_unlike_pair(n, member[0]) and is_order(n, member[1]) for member in value)
