"""Tables of lots for some stretches of a book, made narrower by what is together of two ways."""

from soonerornot.books import is_triple
from soonerornot.placings import keeps
from soonerornot.together import together_lots
from soonerornot.ways import ALL_WAYS, way_order
from soonerornot.words import is_number


def first_table(book, stretches):
    """Return the first table of a book and stretches."""
    return tuple([tuple([_first_lot(book, stretches, s, t) for t in range(len(stretches))])
                  for s in range(len(stretches))])


def narrowed_by(table, s, x, t):
    """Return a table narrowed by the stretches with three unlike numbers."""
    rows = [list(row) for row in table]
    rows[s][t] = _narrower_lot(rows, s, x, t)
    return _table_of(rows)


def narrow_table(book, stretches):
    """Return the narrow table of a book and stretches."""
    rows, _ = _narrowed_out(book, stretches)
    return _table_of(rows)


def narrowing_paper(book, stretches):
    """Return a narrowing paper for the narrow table of a book and stretches."""
    _, paper = _narrowed_out(book, stretches)
    return tuple(paper)


def judge_narrowing(book, stretches, table, value):
    """Return None if a value, which may be anything, is a narrowing paper for a table, or else the first fault."""
    many = len(stretches)
    if not isinstance(value, tuple) or not all(_is_unlike_triple(many, member) for member in value):
        return ("form",)
    rows = [list(row) for row in first_table(book, stretches)]
    for s, x, t in value:
        rows[s][t] = _narrower_lot(rows, s, x, t)
    for s in range(many):
        for t in range(many):
            if table[s][t] != rows[s][t]:
                return ("table", s, t)
    for s, x, t in _unlike_triples(many):
        if _narrower_lot(rows, s, x, t) != rows[s][t]:
            return ("left", s, x, t)
    return None


def _first_lot(book, stretches, s, t):
    if s == t:
        return (0,)
    moments = (*stretches[s], *stretches[t])
    sayings = [saying for saying in book[1] if _is_about(saying, moments)]
    return tuple([way for way in ALL_WAYS if _keeps_all(sayings, moments, way)])


def _is_about(saying, moments):
    """Tell whether all moments of a saying are among some."""
    ties, head = saying
    pairs = list(ties) if head is None else [*ties, head]
    return all(u in moments and v in moments for u, v in pairs)


def _keeps_all(sayings, moments, way):
    """Tell whether a way, as an order of four moments, keeps all of some sayings about them."""
    # A saying is only asked about its own moments, so these four do for a placing.
    place = {moment: member for moment, member in zip(moments, way_order(way))}
    return all(keeps(saying, place) for saying in sayings)


def _narrower_lot(rows, s, x, t):
    """Return what three stretches leave of the lot of the first and the third one."""
    made = together_lots(rows[s][x], rows[x][t])
    return tuple([way for way in rows[s][t] if way in made])


def _narrowed_out(book, stretches):
    """Return the rows of the narrow table, and the list of the triples that have taken something out."""
    rows = [list(row) for row in first_table(book, stretches)]
    paper = []
    done = False
    while not done:
        done = True
        for s, x, t in _unlike_triples(len(stretches)):
            lot = _narrower_lot(rows, s, x, t)
            if lot != rows[s][t]:
                rows[s][t] = lot
                paper.append((s, x, t))
                done = False
    return rows, paper


def _table_of(rows):
    return tuple([tuple(row) for row in rows])


def _unlike_triples(many):
    """Return the ascending list of the triples of unlike numbers below one."""
    numbers = range(many)
    return [(s, x, t) for s in numbers for x in numbers for t in numbers if s != x and x != t and s != t]


def _is_unlike_triple(many, value):
    if not is_triple(value) or not all(is_number(k) and k < many for k in value):
        return False
    s, x, t = value
    return s != x and x != t and s != t
