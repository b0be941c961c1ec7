"""Derivations made leaner, grafted on one another, and turned."""


def leaned(value):
    """Return a derivation leaned."""
    return tuple(_only_needed(_each_fact_once(_only_needed(value))))


def uses(value):
    """Return what a derivation uses: the numbers of given facts, and those of sayings."""
    reasons = [reason for _, reason in value]
    return (_numbers_behind("given", reasons), _numbers_behind("fire", reasons))


def grafted(value, others):
    """Return a derivation grafted on others, a dict from the numbers of the given facts that it uses."""
    rows = []
    ends = {}
    for k in sorted(others):
        start = len(rows)
        numbers = [start + i for i in range(len(others[k]))]
        rows.extend([(fact, _naming(reason, numbers)) for fact, reason in others[k]])
        ends[k] = len(rows) - 1
    numbers = []
    for fact, reason in value:
        if reason[0] == "given":
            numbers.append(ends[reason[1]])
        else:
            numbers.append(len(rows))
            rows.append((fact, _naming(reason, numbers)))
    if value[-1][1][0] == "given":
        rows.append(rows[numbers[-1]])
    return tuple(rows)


def turned_derivation(value):
    """Return a derivation turned."""
    return tuple([(_turned_fact(fact), _turned_reason(reason)) for fact, reason in value])


def _named(reason):
    """Return the list of the numbers of the rows that a reason names."""
    if reason[0] == "chain":
        return [reason[1], reason[2]]
    if reason[0] == "fire":
        return [k for pair in reason[2] for k in pair]
    return []


def _naming(reason, numbers):
    """Return a reason that names the row numbers[i] in the place of each row i."""
    if reason[0] == "chain":
        return ("chain", numbers[reason[1]], numbers[reason[2]])
    if reason[0] == "fire":
        return ("fire", reason[1], tuple([(numbers[i], numbers[j]) for i, j in reason[2]]))
    return reason


def _only_needed(rows):
    """Return the list of the needed ones of some rows."""
    needed = [False] * len(rows)
    needed[-1] = True
    for k in range(len(rows) - 1, -1, -1):
        if needed[k]:
            for i in _named(rows[k][1]):
                needed[i] = True
    kept = []
    numbers = []
    for k, (fact, reason) in enumerate(rows):
        numbers.append(len(kept))
        if needed[k]:
            kept.append((fact, _naming(reason, numbers)))
    return kept


def _each_fact_once(rows):
    """Return the list of the first rows of all facts, up to that of the last row's fact."""
    places = {}
    kept = []
    numbers = []
    for fact, reason in rows:
        if fact not in places:
            places[fact] = len(kept)
            kept.append((fact, _naming(reason, numbers)))
        numbers.append(places[fact])
    return kept[:numbers[-1] + 1]


def _numbers_behind(word, reasons):
    return tuple(sorted(set([reason[1] for reason in reasons if reason[0] == word])))


def _turned_fact(fact):
    return None if fact is None else (fact[1], fact[0])


def _turned_reason(reason):
    if reason[0] == "chain":
        return ("chain", reason[2], reason[1])
    if reason[0] == "fire":
        return ("fire", reason[1], tuple([(j, i) for i, j in reason[2]]))
    return reason
