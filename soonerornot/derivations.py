"""Derivations: what is derived from a book and given facts, by which steps, and which steps are right."""

from soonerornot.books import is_fact, is_pair, is_triple
from soonerornot.closures import Closure, bits
from soonerornot.words import is_number


def closed(book, given):
    """Return the closed facts of a book and given facts, a pair."""
    closure = Closure(book, given)
    facts = sorted([fact for fact in closure.steps if fact is not None])
    return (tuple(facts), not closure.derived(None))


def laps(book, given):
    """Return the list of the pairs (fact, lap) of all derived facts but those of one moment twice."""
    later = [1 << u for u in range(book[0])]
    told = {}
    fresh = sorted(set([(u, v) for u, v in given if u != v]))
    lap = 0
    # Lap 0 may add nothing, and the next one still something by sayings without ties.
    while fresh or lap == 0:
        for fact in fresh:
            told[fact] = lap
            if fact is not None:
                later[fact[0]] |= 1 << fact[1]
        fresh = _chained(later) + _fired(book, later)
        fresh = _in_sequence([fact for fact in fresh if fact not in told])
        lap += 1
    return list(told.items())


def derivation(book, given, fact):
    """Return a derivation of a fact, or None if it is not derived."""
    if fact is not None and fact[0] == fact[1]:
        return ((fact, ("same",)),)
    closure = Closure(book, given)
    if not closure.derived(fact):
        return None
    needed = _needed_facts(closure, fact)
    numbers = {}
    rows = []
    for one in closure.steps:
        if one in needed:
            numbers[one] = len(rows)
            rows.append((one, _reason(closure, one, numbers)))
    return tuple(rows)


def judge_derivation(book, given, fact, value):
    """Return None if a value, which may be anything, is a derivation of a fact, and otherwise the first fault."""
    if not _is_formed(book[0], value):
        return ("form",)
    facts = [told for told, _ in value]
    for k, (_, reason) in enumerate(value):
        if not _is_right(book, given, facts, k, reason):
            return ("row", k)
    if facts[-1] != fact:
        return ("last",)
    return None


def _chained(later):
    """Return the new pairs that come by one chain."""
    pairs = []
    for u, mask in enumerate(later):
        reached = 0
        for v in bits(mask):
            reached |= later[v]
        pairs.extend([(u, w) for w in bits(reached & ~mask)])
    return pairs


def _fired(book, later):
    """Return the heads that come by one firing."""
    return [head for ties, head in book[1] if all(_is_tied(later, a, b) for a, b in ties)]


def _is_tied(later, a, b):
    return later[a] >> b & later[b] >> a & 1 == 1


def _in_sequence(facts):
    """Return facts, each once, the pairs ascending, None behind them."""
    pairs = sorted(set([fact for fact in facts if fact is not None]))
    return pairs + [None] if None in facts else pairs


def _needed_facts(closure, fact):
    """Return a dict that has the fact, and all that its steps need, as its keys."""
    needed = {fact: True}
    left = [fact]
    while left:
        sources = _sources(closure, left.pop())
        for one in sources:
            if one not in needed:
                needed[one] = True
                left.append(one)
    return needed


def _sources(closure, fact):
    """Return the list of the facts that the step to a fact needs."""
    step = closure.steps[fact]
    if step[0] == "given":
        return []
    if step[0] == "chain":
        return [(fact[0], step[1]), (step[1], fact[1])]
    ties, _ = closure.sayings[step[1]]
    return [pair for a, b in ties for pair in ((a, b), (b, a))]


def _reason(closure, fact, numbers):
    """Return the reason of a derived fact, the rows of the facts that it needs having these numbers."""
    step = closure.steps[fact]
    rows = [numbers[one] for one in _sources(closure, fact)]
    if step[0] == "given":
        return step
    if step[0] == "chain":
        return ("chain", rows[0], rows[1])
    return ("fire", step[1], tuple(zip(rows[::2], rows[1::2])))


def _is_formed(n, value):
    if not isinstance(value, tuple) or not value:
        return False
    return all(is_pair(row) and is_fact(n, row[0]) and _is_reason(row[1]) for row in value)


def _is_reason(value):
    if value == ("same",):
        return True
    if is_pair(value):
        return value[0] == "given" and is_number(value[1])
    if not is_triple(value) or not is_number(value[1]):
        return False
    if value[0] == "chain":
        return is_number(value[2])
    return value[0] == "fire" and _are_number_pairs(value[2])


def _are_number_pairs(value):
    if not isinstance(value, tuple):
        return False
    return all(is_pair(pair) and is_number(pair[0]) and is_number(pair[1]) for pair in value)


def _is_right(book, given, facts, k, reason):
    """Tell whether row k, which has this reason, is right by the rows before it."""
    fact = facts[k]
    if reason[0] == "same":
        return fact is not None and fact[0] == fact[1]
    if reason[0] == "given":
        return reason[1] < len(given) and given[reason[1]] == fact
    if reason[0] == "chain":
        return _is_chain(facts, k, reason[1], reason[2])
    return _is_firing(book, facts, k, reason)


def _is_chain(facts, k, i, j):
    if i >= k or j >= k or None in (facts[i], facts[j], facts[k]):
        return False
    return facts[i][1] == facts[j][0] and facts[k] == (facts[i][0], facts[j][1])


def _is_firing(book, facts, k, reason):
    _, number, pairs = reason
    if number >= len(book[1]):
        return False
    ties, head = book[1][number]
    if facts[k] != head or len(pairs) != len(ties):
        return False
    for (a, b), (i, j) in zip(ties, pairs):
        if i >= k or j >= k or facts[i] != (a, b) or facts[j] != (b, a):
            return False
    return True
