"""The first wrong part of what should be a saying, a book, a placing or an order."""

from soonerornot.errors import BadTree
from soonerornot.words import is_integer, is_number


def check_saying(n, value):
    """Raise BadTree(path) if a value is no saying about n moments."""
    _check_saying_at((), n, value)


def check_book(value):
    """Raise BadTree(path) if a value is no book."""
    if not is_pair(value):
        raise BadTree(())
    n, sayings = value
    if not is_number(n):
        raise BadTree((0,))
    if not isinstance(sayings, tuple):
        raise BadTree((1,))
    for k, saying in enumerate(sayings):
        _check_saying_at((1, k), n, saying)


def check_placing(n, value):
    """Raise BadTree(path) if a value is no placing of n moments."""
    if not isinstance(value, tuple) or len(value) != n:
        raise BadTree(())
    for k, member in enumerate(value):
        if not is_integer(member):
            raise BadTree((k,))


def check_order(n, value):
    """Raise BadTree(path) if a value is no order of n moments."""
    check_placing(n, value)
    if not is_order(n, value):
        raise BadTree(())


def is_pair(value):
    """Tell whether a value, which may be anything, is a tuple of two members."""
    return isinstance(value, tuple) and len(value) == 2


def is_triple(value):
    """Tell whether a value, which may be anything, is a tuple of three members."""
    return isinstance(value, tuple) and len(value) == 3


def is_moment(n, value):
    """Tell whether a value, which may be anything, is one of n moments."""
    return is_number(value) and value < n


def is_fact(n, value):
    """Tell whether a value, which may be anything, is a fact about n moments."""
    return value is None or (is_pair(value) and is_moment(n, value[0]) and is_moment(n, value[1]))


def is_unlike_pair(n, value):
    """Tell whether a value, which may be anything, is a pair of two unlike ones of n moments."""
    return is_fact(n, value) and value is not None and value[0] != value[1]


def is_placing(n, value):
    """Tell whether a value, which may be anything, is a placing of n moments."""
    return isinstance(value, tuple) and len(value) == n and all(is_integer(member) for member in value)


def is_order(n, value):
    """Tell whether a value, which may be anything, is an order of n moments."""
    return is_placing(n, value) and sorted(set(value)) == list(range(len(set(value))))


def is_saying(n, value):
    """Tell whether a value, which may be anything, is a saying about n moments."""
    try:
        check_saying(n, value)
    except BadTree:
        return False
    return True


def is_book(value):
    """Tell whether a value, which may be anything, is a book."""
    try:
        check_book(value)
    except BadTree:
        return False
    return True


def _check_saying_at(path, n, value):
    if not is_pair(value):
        raise BadTree(path)
    ties, head = value
    if not isinstance(ties, tuple):
        raise BadTree((*path, 0))
    for k, tie in enumerate(ties):
        _check_tie_at((*path, 0, k), n, tie)
        if k > 0 and not ties[k - 1] < tie:
            raise BadTree((*path, 0, k))
    if head is not None:
        _check_head_at((*path, 1), n, head)


def _check_tie_at(path, n, tie):
    if not is_pair(tie):
        raise BadTree(path)
    if not is_moment(n, tie[0]):
        raise BadTree((*path, 0))
    if not is_moment(n, tie[1]) or not tie[0] < tie[1]:
        raise BadTree((*path, 1))


def _check_head_at(path, n, head):
    if not is_pair(head):
        raise BadTree(path)
    if not is_moment(n, head[0]):
        raise BadTree((*path, 0))
    if not is_moment(n, head[1]) or head[1] == head[0]:
        raise BadTree((*path, 1))
