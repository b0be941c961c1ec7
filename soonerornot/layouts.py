"""How a sheet is laid out as a book."""

from soonerornot.sheets import SIGNS, term_numbers

# 0 and 1 stand for the begin and the end of the first stretch, 2 and 3 for those of the second one.
WAY_HEADS = {
    "same": (("=", 0, 2), ("=", 1, 3)),
    "starts": (("=", 0, 2), ("<", 1, 3)),
    "meets": (("=", 1, 2),),
    "before": (("<", 1, 2),),
    "started": (("=", 0, 2), ("<", 3, 1)),
    "ended": (("<", 0, 2), ("=", 1, 3)),
    "overlaps": (("<", 0, 2), ("<", 2, 1), ("<", 1, 3)),
    "holds": (("<", 0, 2), ("<", 3, 1)),
    "met": (("=", 0, 3),),
    "ends": (("<", 2, 0), ("=", 1, 3)),
    "within": (("<", 2, 0), ("<", 1, 3)),
    "overlapped": (("<", 2, 0), ("<", 0, 3), ("<", 3, 1)),
    "after": (("<", 3, 0),),
}


def line_sayings(sheet, line):
    """Return the list of the sayings that a line tells."""
    return _told_by(term_numbers(sheet), line)


def book_of_sheet(sheet):
    """Return the book of a sheet."""
    _, stretches, lines = sheet
    numbers = term_numbers(sheet)
    sayings = []
    for name in stretches:
        ends = _ends_of(numbers, name)
        sayings.extend([((), ends), ((ends,), None)])
    for line in lines:
        sayings.extend(_told_by(numbers, line))
    return (len(numbers), tuple(sayings))


def lines_of(sheet):
    """Return the list that has for each saying of a sheet's book the name of its line, or None."""
    _, stretches, lines = sheet
    numbers = term_numbers(sheet)
    told = [None] * (2 * len(stretches))
    for line in lines:
        told.extend([line[0]] * len(_told_by(numbers, line)))
    return told


def _told_by(numbers, line):
    _, pairs, head = line
    ties = _ties_of(numbers, pairs)
    if head == ("never",):
        return [(ties, None)]
    sayings = []
    for sign, u, v in _plain_heads(numbers, head):
        sayings.extend(_sign_sayings(ties, sign, u, v))
    return sayings


def _ends_of(numbers, name):
    return (numbers[("begin", name)], numbers[("end", name)])


def _ties_of(numbers, pairs):
    found = set()
    for one, other in pairs:
        a, b = numbers[one], numbers[other]
        if a != b:
            found.add((min(a, b), max(a, b)))
    return tuple(sorted(found))


def _plain_heads(numbers, head):
    word, one, other = head
    if word in SIGNS:
        return [(word, numbers[one], numbers[other])]
    moments = (*_ends_of(numbers, one), *_ends_of(numbers, other))
    return [(sign, moments[u], moments[v]) for sign, u, v in WAY_HEADS[word]]


def _sign_sayings(ties, sign, u, v):
    sayings = []
    if sign != "/=" and u != v:
        sayings.append((ties, (u, v)))
    if sign == "=" and u != v:
        sayings.append((ties, (v, u)))
    if sign in ("<", "/="):
        sayings.append((_with_tie(ties, u, v), None))
    return sayings


def _with_tie(ties, u, v):
    if u == v:
        return ties
    return tuple(sorted(set([*ties, (min(u, v), max(u, v))])))
