"""Sharp sayings: those that are true on a set of orders, and told at once by no other one that is."""

from soonerornot.limits import check_not_above
from soonerornot.placings import is_idle, keeps
from soonerornot.refusals import unlike_pairs

MOST_OF_ALL = 4


def tells(one, other):
    """Return whether a saying tells another one at once; an equal one it does not tell."""
    if one == other or one[1] not in (None, other[1]):
        return False
    return all(tie in other[0] for tie in one[0])


def sharp(n, members):
    """Return the list of all sharp sayings for a set of orders of n moments, by their ties, then by their heads."""
    check_not_above(n, MOST_OF_ALL)
    heads = [None, *unlike_pairs(n)]
    sayings = [(ties, head) for ties in _all_ties(n) for head in heads]
    true = {saying: True for saying in sayings if all(keeps(saying, order) for order in members)}
    return [saying for saying in true if _is_sharp(true, saying)]


def _all_ties(n):
    """Return the ascending list of all that the ties of a saying about n moments can be."""
    rows = [()]
    for pair in unlike_pairs(n):
        if pair[0] < pair[1]:
            rows = rows + [(*row, pair) for row in rows]
    return sorted(rows)


def _is_sharp(true, saying):
    """Tell whether a true saying is sharp, the keys of a dict being all true ones."""
    ties, head = saying
    if is_idle(saying) or (head is not None and (ties, None) in true):
        return False
    # What is true stays so with more ties, so it is enough to leave out one of them.
    return not any((ties[:k] + ties[k + 1:], head) in true for k in range(len(ties)))
