"""Full whys: papers for the lists of all least and of all greatest lots of a book, and what is wrong in them."""

from soonerornot.books import is_placing, is_triple
from soonerornot.closures import bits
from soonerornot.derivations import derivation, judge_derivation
from soonerornot.placings import keeps_book
from soonerornot.settled import told_placing
from soonerornot.whys import book_of_lot, both_lots, check_size, mask_of
from soonerornot.words import is_number


def full_why(book):
    """Return a full why for all least and all greatest lots of a book."""
    check_size(book)
    low, high = both_lots(book)
    derivations = [derivation(book_of_lot(book, lot), (), None) for lot in low]
    placings = [told_placing(book_of_lot(book, lot), ()) for lot in high]
    return (tuple(derivations), tuple(placings), _why_tree(len(book[1]), low, high))


def _why_tree(many, low, high):
    """Return a why tree for a book of so many sayings, low and high being all its least and greatest lots."""
    nodes = []
    _grow(nodes, [mask_of(lot) for lot in low], [rest_of(many, lot) for lot in high], 0, 0)
    return tuple(nodes)


def judge_why(book, low, high, value):
    """Return None if a value, which may be anything, is a full why for some lots, and otherwise the first fault."""
    check_size(book)
    fault = _within_fault(0, low) or _within_fault(1, high)
    if fault is not None:
        return fault
    if not _is_formed(book, low, high, value):
        return ("form",)
    derivations, placings, nodes = value
    for i, lot in enumerate(low):
        if judge_derivation(book_of_lot(book, lot), (), None, derivations[i]) is not None:
            return ("derivation", i)
    for i, lot in enumerate(high):
        if not keeps_book(book_of_lot(book, lot), placings[i]):
            return ("placing", i)
    return _named_fault(nodes) or _walk_fault(len(book[1]), low, high, nodes)


def rest_of(many, lot):
    """Return the mask of the rest of a lot of a book of so many sayings."""
    return (1 << many) - 1 & ~mask_of(lot)


def _grow(nodes, low, rests, taken, dropped):
    """Put down a node and all behind it, what its walk takes and drops being told, and return its number."""
    number = len(nodes)
    for i, mask in enumerate(low):
        if mask & ~taken == 0:
            nodes.append(("low", i))
            return number
    for i, mask in enumerate(rests):
        if mask & ~dropped == 0:
            nodes.append(("high", i))
            return number
    k = _next_split(low, taken, dropped)
    nodes.append(None)
    m = _grow(nodes, low, rests, taken | 1 << k, dropped)
    n = _grow(nodes, low, rests, taken, dropped | 1 << k)
    nodes[number] = ("split", k, m, n)
    return number


def _next_split(low, taken, dropped):
    """Return a saying of a least lot of which nothing is dropped and as little as can be is still to be taken.

    There is such a lot: what is not dropped lies within no greatest lot, so it can't be kept.
    """
    lefts = [bits(mask & ~taken) for mask in low if mask & dropped == 0]
    return min(lefts, key=len)[0]


def _within_fault(sort, lots):
    """Return the fault of the first lot that lies within another one, or None."""
    masks = [mask_of(lot) for lot in lots]
    for i, one in enumerate(masks):
        for j, other in enumerate(masks):
            if i != j and one & ~other == 0:
                return ("within", sort, i, j)
    return None


def _is_formed(book, low, high, value):
    if not is_triple(value) or not all(isinstance(part, tuple) for part in value):
        return False
    derivations, placings, nodes = value
    if len(derivations) != len(low) or len(placings) != len(high) or not nodes:
        return False
    if not all(is_placing(book[0], placing) for placing in placings):
        return False
    counts = (len(book[1]), len(low), len(high), len(nodes))
    return all(_is_node(counts, number, node) for number, node in enumerate(nodes))


def _is_node(counts, number, node):
    """Tell whether a value is a node with a number; counts tells how many sayings, lots and nodes there are."""
    sayings, lows, highs, nodes = counts
    if not isinstance(node, tuple) or not node or not all(is_number(part) for part in node[1:]):
        return False
    if node[0] == "split" and len(node) == 4:
        _, k, m, n = node
        return k < sayings and number < m < nodes and number < n < nodes and m != n
    if len(node) != 2:
        return False
    return (node[0] == "low" and node[1] < lows) or (node[0] == "high" and node[1] < highs)


def _named_fault(nodes):
    """Return the fault of the first node, but node 0, that is not named just once, or None."""
    named = [0] * len(nodes)
    for node in nodes:
        if node[0] == "split":
            named[node[2]] += 1
            named[node[3]] += 1
    for number in range(1, len(nodes)):
        if named[number] != 1:
            return ("named", number)
    return None


def _walk_fault(many, low, high, nodes):
    """Return the first fault of the walks to the nodes, each of which but node 0 is named just once, or None."""
    taken, dropped = _walks(nodes)
    for number, node in enumerate(nodes):
        if node[0] == "split" and (taken[number] | dropped[number]) >> node[1] & 1:
            return ("again", number)
    for number, node in enumerate(nodes):
        if node[0] == "low" and mask_of(low[node[1]]) & ~taken[number]:
            return ("low", number)
        if node[0] == "high" and rest_of(many, high[node[1]]) & ~dropped[number]:
            return ("high", number)
    return None


def _walks(nodes):
    """Return the lists of the masks of the sayings that the walk to each node takes and drops."""
    taken = [0] * len(nodes)
    dropped = [0] * len(nodes)
    for number, node in enumerate(nodes):
        # A node names only nodes behind it, so its own walk is known.
        if node[0] == "split":
            _, k, m, n = node
            taken[m], dropped[m] = taken[number] | 1 << k, dropped[number]
            taken[n], dropped[n] = taken[number], dropped[number] | 1 << k
    return taken, dropped
