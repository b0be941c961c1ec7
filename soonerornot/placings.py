"""Placings: which sayings they keep and break, and of what order they are."""


def keeps(saying, placing):
    """Return whether a placing keeps a saying."""
    ties, head = saying
    for a, b in ties:
        if placing[a] != placing[b]:
            return True
    if head is None:
        return False
    u, v = head
    return placing[u] <= placing[v]


def keeps_book(book, placing):
    """Return whether a placing keeps all sayings of a book."""
    return first_broken(book, placing) is None


def broken(book, placing):
    """Return the ascending list of the numbers of the sayings that a placing breaks."""
    return [k for k, saying in enumerate(book[1]) if not keeps(saying, placing)]


def first_broken(book, placing):
    """Return the number of the first saying that a placing breaks, or None."""
    for k, saying in enumerate(book[1]):
        if not keeps(saying, placing):
            return k
    return None


def order_of(placing):
    """Return the order of a placing."""
    ranks = {number: rank for rank, number in enumerate(sorted(set(placing)))}
    return tuple([ranks[number] for number in placing])


def is_idle(saying):
    """Return whether every placing keeps a saying."""
    ties, head = saying
    if head is None:
        return False
    u, v = head
    return v in _tied_to(ties, u)


def parting(one, other):
    """Return a saying that just one of two placings of as many moments keeps, or None."""
    for u in range(len(one)):
        for v in range(len(one)):
            if (one[u] <= one[v]) != (other[u] <= other[v]):
                return ((), (u, v))
    return None


def _tied_to(ties, start):
    """Return the list of the moments to which ties lead from one, itself among them."""
    beside = {}
    for a, b in ties:
        beside.setdefault(a, []).append(b)
        beside.setdefault(b, []).append(a)
    found = [start]
    at = 0
    while at < len(found):
        found.extend([moment for moment in beside.get(found[at], []) if moment not in found])
        at += 1
    return found
