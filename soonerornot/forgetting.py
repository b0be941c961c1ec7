"""Forgetting moments of a book: which orders of the kept ones can be filled, each with a paper."""

from soonerornot.books import is_pair, is_placing, is_saying
from soonerornot.closures import Closure
from soonerornot.derivations import derivation, judge_derivation
from soonerornot.limits import check_not_above
from soonerornot.lineups import lined_up
from soonerornot.orders import left_order, orders
from soonerornot.placings import first_broken, keeps
from soonerornot.refusals import backward_pairs, ties_of
from soonerornot.settled import given_by
from soonerornot.sides import renamed

MOST_KEPT = 4


def check_kept(kept):
    """Raise TooGreat() if too many moments are kept."""
    check_not_above(len(kept), MOST_KEPT)


def lifted(kept, saying):
    """Return a saying of the kept moments lifted."""
    check_kept(kept)
    return renamed(saying, kept)


def shown_by(kept, placing):
    """Return the order of the kept moments that a placing shows."""
    check_kept(kept)
    return left_order(placing, kept)


def can_fill(book, kept, order):
    """Return whether an order of the kept moments can be filled."""
    check_kept(kept)
    closure = Closure(book, _facts_of(kept, order))
    return not _refused_heads(closure, kept, order)


def shown_orders(book, kept):
    """Return the list of the shown orders of the kept moments."""
    check_kept(kept)
    return [order for order in orders(len(kept)) if can_fill(book, kept, order)]


def filling(book, kept, order):
    """Return a filling of an order, or None if there is none."""
    check_kept(kept)
    closure = Closure(book, _facts_of(kept, order))
    if _refused_heads(closure, kept, order):
        return None
    # To break (u, v) is to put v before u.
    broken = [(kept[u], kept[v]) for u, v in backward_pairs(order)]
    return lined_up(closure, 0, broken)


def judge_filling(book, kept, order, value):
    """Return None if a value, which may be anything, is a filling of an order, and otherwise the first fault."""
    check_kept(kept)
    if not is_placing(book[0], value):
        return ("form",)
    k = first_broken(book, value)
    if k is not None:
        return ("broken", k)
    return None if shown_by(kept, value) == order else ("shown",)


def refusal(book, kept, order):
    """Return a refusal of an order, or None if there is none."""
    check_kept(kept)
    given = _facts_of(kept, order)
    heads = _refused_heads(Closure(book, given), kept, order)
    if not heads:
        return None
    saying = (ties_of(order), heads[0])
    return (saying, derivation(book, given, lifted(kept, saying)[1]))


def judge_refusal(book, kept, order, value):
    """Return None if a value, which may be anything, is a refusal of an order, and otherwise the first fault."""
    check_kept(kept)
    if not is_pair(value) or not is_saying(len(kept), value[0]):
        return ("form",)
    saying, paper = value
    if keeps(saying, order):
        return ("keeps",)
    ties, head = lifted(kept, saying)
    fault = judge_derivation(book, given_by(ties), head, paper)
    return None if fault is None else ("derivation", fault)


def _facts_of(kept, order):
    """Return the facts that the ties of an order give, lifted."""
    ties, _ = lifted(kept, (ties_of(order), None))
    return given_by(ties)


def _refused_heads(closure, kept, order):
    """Return the list of the heads, told in places, that are derived with the ties of an order, and not kept by it."""
    heads = [None] if closure.derived(None) else []
    return heads + [(u, v) for u, v in backward_pairs(order) if closure.derived((kept[u], kept[v]))]
