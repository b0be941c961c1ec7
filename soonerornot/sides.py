"""Sayings, placings and books seen from other sides: turned, mirrored, renamed, put beside and together."""


def turned(saying):
    """Return a saying turned."""
    ties, head = saying
    if head is None:
        return saying
    u, v = head
    return (ties, (v, u))


def mirrored(placing):
    """Return a placing mirrored."""
    return tuple([-number for number in placing])


def renamed(saying, names):
    """Return a saying renamed by new names."""
    ties, head = saying
    return (_renamed_ties(ties, names), _renamed_head(head, names))


def turned_book(book):
    """Return a book turned."""
    n, sayings = book
    return (n, tuple([turned(saying) for saying in sayings]))


def renamed_book(book, n, names):
    """Return a book renamed by new names among n moments."""
    return (n, tuple([renamed(saying, names) for saying in book[1]]))


def beside(one, other):
    """Return two books beside each other."""
    n = one[0] + other[0]
    return together((n, one[1]), renamed_book(other, n, tuple(range(one[0], n))))


def together(one, other):
    """Return two books of as many moments together."""
    return (one[0], one[1] + other[1])


def _renamed_ties(ties, names):
    pairs = [(names[a], names[b]) for a, b in ties]
    return tuple(sorted([(min(pair), max(pair)) for pair in pairs]))


def _renamed_head(head, names):
    if head is None:
        return None
    u, v = head
    return (names[u], names[v])
