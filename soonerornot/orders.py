"""Orders: all of them, their numbers, and what moments leave of them."""

from soonerornot.placings import order_of


def orders(n):
    """Return the ascending list of all orders of n moments."""
    rows = [()]
    for _ in range(n):
        rows = [wider for row in rows for wider in spreads(row)]
    return sorted(rows)


def how_many(n):
    """Return how many orders of n moments there are."""
    return _how_many_begin(_endings(n), ())


def number_of_order(order):
    """Return how many orders of as many moments are less than this one."""
    endings = _endings(len(order))
    number = 0
    for k, member in enumerate(order):
        for lesser in range(member):
            number += _how_many_begin(endings, order[:k] + (lesser,))
    return number


def order_at(n, number):
    """Return the order of n moments with a number."""
    endings = _endings(n)
    start = ()
    left = number
    for _ in range(n):
        member = 0
        many = _how_many_begin(endings, (*start, member))
        while many <= left:
            left -= many
            member += 1
            many = _how_many_begin(endings, (*start, member))
        start = (*start, member)
    return start


def left_of(placing, moments):
    """Return what unlike moments leave of a placing."""
    return tuple([placing[moment] for moment in moments])


def left_order(order, moments):
    """Return what unlike moments leave of an order."""
    return order_of(left_of(order, moments))


def spreads(order):
    """Return the ascending list of the orders of one moment more that spread an order."""
    classes = max(order, default=-1) + 1
    rows = [(*order, k) for k in range(classes)]
    for k in range(classes + 1):
        moved = [number + 1 if number >= k else number for number in order]
        rows.append((*moved, k))
    return sorted(rows)


def _how_many_begin(endings, start):
    """Return how many orders begin with some numbers."""
    more = len(endings) - 1 - len(start)
    return endings[more][max(start, default=-1) + 1][len(set(start))]


def _endings(n):
    """Return rows[more][top][used]: how many tuples of so many numbers more end an order of n moments.

    top is how many numbers there are up to the greatest one that stands ahead of
    them, used how many of these do; so the other ones below top must come yet.
    """
    rows = [[[int(used == top) for used in range(n + 2)] for top in range(n + 1)]]
    for _ in range(n):
        rows.append(_one_more(n, rows[-1]))
    return rows


def _one_more(n, last):
    """Return the rows of _endings for one number more."""
    rows = []
    # above[used] adds up what last tells for all greater tops: the next number may be any new top.
    above = [0] * (n + 2)
    for top in range(n, -1, -1):
        counts = last[top]
        rows.append([
            used * counts[used] + (top - used) * counts[used + 1] + above[used + 1] for used in range(top + 1)
        ] + [0] * (n + 1 - top))
        above = [one + other for one, other in zip(above, counts)]
    rows.reverse()
    return rows
