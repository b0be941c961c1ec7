"""Slow ways to find what the package finds, straight from the words of the document, and books to find it for."""

import itertools
import random

from soonerornot.orders import orders
from soonerornot.placings import keeps_book

# The books of the examples of parts 3, 4 and 6.
THREE = (3, (((), (0, 1)), (((0, 1),), (2, 0)), (((0, 2),), None)))
FOUR = (4, (((), (0, 1)), (((0, 1),), (2, 3)), ((), (1, 2)), (((1, 2),), None)))
SIX = (6, (((), (0, 1)), (((0, 1),), None), ((), (2, 3)), (((2, 3),), None), ((), (4, 5)), (((4, 5),), None),
           ((), (1, 4)), ((), (4, 1)), (((1, 4),), (1, 2))))


def facts_of(n):
    """Return all facts about n moments."""
    return [*itertools.product(range(n), repeat=2), None]


def keeps_fact(fact, placing):
    return fact is not None and placing[fact[0]] <= placing[fact[1]]


def keepers(book, given=()):
    """Return all orders that keep a book and given facts."""
    return [order for order in orders(book[0])
            if keeps_book(book, order) and all(keeps_fact(fact, order) for fact in given)]


def slow_laps(book, given):
    """Return a dict from each derived fact to its lap, found lap by lap."""
    laps = {fact: 0 for fact in [*((u, u) for u in range(book[0])), *given]}
    lap = 0
    while True:
        lap += 1
        known = set(laps)
        fresh = {(u, x) for u, v in known - {None} for w, x in known - {None} if v == w}
        for ties, head in book[1]:
            if all((a, b) in known and (b, a) in known for a, b in ties):
                fresh.add(head)
        if fresh <= known:
            return laps
        laps.update({fact: lap for fact in fresh - known})


def fault_of(book, given, fact, value):
    """Return what judge_derivation must tell."""
    if type(value) is not tuple or not value or not all(row_formed(book[0], row) for row in value):
        return ("form",)
    facts = []
    for k, (told, reason) in enumerate(value):
        facts.append(told)
        try:
            right = row_holds(book, given, facts, reason)
        except (IndexError, TypeError):
            right = False
        if not right:
            return ("row", k)
    return None if told == fact else ("last",)


def is_derivation(book, given, value):
    """Tell whether some rows are a derivation of the fact of the last one."""
    return fault_of(book, given, value[-1][0], value) is None


def row_formed(n, row):
    if type(row) is not tuple or len(row) != 2:
        return False
    fact, reason = row
    if fact is not None and not (is_number_tuple(fact) and len(fact) == 2 and max(fact) < n):
        return False
    if type(reason) is not tuple or not reason or reason[0] not in ("same", "given", "chain", "fire"):
        return False
    word, *rest = reason
    if word == "fire":
        return (len(rest) == 2 and is_number_tuple((rest[0],)) and type(rest[1]) is tuple and
                all(is_number_tuple(pair) and len(pair) == 2 for pair in rest[1]))
    return len(rest) == ("same", "given", "chain").index(word) and is_number_tuple(tuple(rest))


def is_number_tuple(value):
    return type(value) is tuple and all(type(member) is int and member >= 0 for member in value)


def row_holds(book, given, facts, reason):
    """Tell whether the last one of some facts comes by a reason of those ahead of it."""
    fact, before = facts[-1], facts[:-1]
    if reason[0] == "same":
        return fact in [(u, u) for u in range(book[0])]
    if reason[0] == "given":
        return fact == given[reason[1]]
    if reason[0] == "chain":
        (u, v), (w, x) = before[reason[1]], before[reason[2]]
        return v == w and fact == (u, x)
    ties, head = book[1][reason[1]]
    named = tuple((before[i], before[j]) for i, j in reason[2])
    return fact == head and named == tuple(((a, b), (b, a)) for a, b in ties)


def all_sayings(n):
    """Return all sayings about n moments, by their ties, those with None ahead of those with pairs."""
    pairs = list(itertools.combinations(range(n), 2))
    ties = sorted(one for k in range(len(pairs) + 1) for one in itertools.combinations(pairs, k))
    return [(one, head) for one in ties for head in [None, *itertools.permutations(range(n), 2)]]


def some_saying(rng, n, most):
    """Return a saying about n moments with at most so many ties."""
    pairs = list(itertools.combinations(range(n), 2))
    ties = tuple(sorted(rng.sample(pairs, rng.randint(0, min(most, len(pairs))))))
    if n < 2 or rng.random() < 0.2:
        return (ties, None)
    return (ties, tuple(rng.sample(range(n), 2)))


def some_book(rng, n, many, most=2):
    """Return a book of n moments and at most so many sayings; it can be kept more often than not."""
    sayings = [some_saying(rng, n, most) for _ in range(rng.randint(0, many))]
    # A saying that nothing can keep would leave little to look at.
    return (n, tuple(saying for saying in sayings if saying != ((), None) or rng.random() < 0.1))


def some_facts(rng, n, many):
    """Return at most so many pairs of moments."""
    if n == 0:
        return ()
    return tuple((rng.randrange(n), rng.randrange(n)) for _ in range(rng.randint(0, many)))


def some_cases(seed, many, most=4):
    """Return so many pairs of a book of at most so many moments and given facts, by a number to begin with."""
    rng = random.Random(seed)
    cases = []
    for _ in range(many):
        n = rng.randint(0, most)
        cases.append((some_book(rng, n, 6), some_facts(rng, n, 3)))
    return cases


def great_case(seed, ties):
    """Return a book of 40 moments and 200 sayings with so many ties each, and 100 given facts."""
    rng = random.Random(seed)
    pairs = list(itertools.combinations(range(40), 2))
    sayings = []
    for _ in range(200):
        head = None if rng.random() < 0.1 else tuple(rng.sample(range(40), 2))
        sayings.append((tuple(sorted(rng.sample(pairs, ties))), head))
    given = tuple((rng.randrange(40), rng.randrange(40)) for _ in range(100))
    return (40, tuple(sayings)), given


def row_of_moments(n):
    """Return a book in which two moments at once make the next two so, up to the last one of n."""
    sayings = []
    for k in range(n - 2):
        ties = ((k, k + 1),)
        sayings.extend([(ties, (k + 1, k + 2)), (ties, (k + 2, k + 1))])
    return (n, tuple(sayings))


def with_stretches(n, stretches, sayings):
    """Return a book of n moments of which some pairs are stretches."""
    told = []
    for begin, end in stretches:
        told.extend([((), (begin, end)), (((min(begin, end), max(begin, end)),), None)])
    return (n, (*told, *sayings))
