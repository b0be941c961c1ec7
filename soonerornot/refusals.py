"""Sayings that refuse an order: some other orders keep them, and it breaks them."""

from soonerornot.placings import keeps


def unlike_pairs(n):
    """Return the ascending list of all pairs of unlike moments of n."""
    return [(u, v) for u in range(n) for v in range(n) if u != v]


def backward_pairs(order):
    """Return the ascending list of the pairs (u, v) of moments such that v is earlier than u in an order."""
    return [(u, v) for u, v in unlike_pairs(len(order)) if order[v] < order[u]]


def ties_of(order):
    """Return the tuple of the ties of an order."""
    return tuple([(a, b) for a, b in unlike_pairs(len(order)) if a < b and order[a] == order[b]])


def fullest_sayings(order):
    """Return the list of the sayings that have just the ties of an order; if any refuses it, one of these does."""
    ties = ties_of(order)
    return [(ties, head) for head in [None, *unlike_pairs(len(order))]]


def first_refusing(sayings, orders, order):
    """Return the first saying that all of some orders keep and the one order breaks, or None."""
    for saying in sayings:
        if not keeps(saying, order) and all(keeps(saying, one) for one in orders):
            return saying
    return None
