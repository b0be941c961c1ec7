"""Facts that are to be broken together: placings that break them all, and rings."""

from soonerornot.closures import Closure
from soonerornot.lineups import lined_up
from soonerornot.words import is_number


def broken_by(placing, fact):
    """Return whether a placing breaks a fact."""
    u, v = fact
    return placing[v] < placing[u]


def against_all(book, given, facts):
    """Return a placing that keeps a book and given facts and breaks all of some facts, or None."""
    closure = Closure(book, given)
    if closure.derived(None):
        return None
    return lined_up(closure, 0, facts)


def ring_of(book, given, facts):
    """Return a ring of some facts, as few as can be, or None if there is none."""
    closure = Closure(book, given)
    nexts = [[j for j in range(len(facts)) if _leads(closure, facts, i, j)] for i in range(len(facts))]
    rings = [_round_from(nexts, start) for start in range(len(facts))]
    return min([ring for ring in rings if ring is not None], key=len, default=None)


def judge_ring(book, given, facts, value):
    """Return None if a value, which may be anything, is a ring of some facts, and otherwise the first fault."""
    if not isinstance(value, tuple) or not value:
        return ("form",)
    if not all(is_number(k) and k < len(facts) for k in value):
        return ("form",)
    seen = set()
    for k, number in enumerate(value):
        if number in seen:
            return ("again", k)
        seen.add(number)
    closure = Closure(book, given)
    for k, number in enumerate(value):
        if not _leads(closure, facts, number, value[(k + 1) % len(value)]):
            return ("derived", k)
    return None


def _leads(closure, facts, i, j):
    """Tell whether the fact from the fact number i to number j is derived, as a ring needs it."""
    return closure.derived((facts[i][0], facts[j][1]))


def _round_from(nexts, start):
    """Return a shortest way from a number back to it, or None if there is none."""
    came = {}
    found = [start]
    at = 0
    while at < len(found):
        number = found[at]
        at += 1
        if start in nexts[number]:
            return _way_to(came, start, number)
        for k in nexts[number]:
            if k not in came:
                came[k] = number
                found.append(k)
    return None


def _way_to(came, start, end):
    """Return the way from the start to an end, came telling from where each number was come to."""
    way = [end]
    while way[-1] != start:
        way.append(came[way[-1]])
    way.reverse()
    return tuple(way)
