"""Sheets: what is wrong in them, and what stands in them."""

from soonerornot.books import is_pair, is_triple
from soonerornot.errors import BadTree, UnknownName
from soonerornot.words import is_free_name

SIGNS = ("<=", "<", "=", "/=")
WAYS = (
    "same", "starts", "meets", "before", "started", "ended", "overlaps",
    "holds", "met", "ends", "within", "overlapped", "after",
)


def check_sheet(value):
    """Raise BadTree(path) if a value is no sheet."""
    if not is_triple(value):
        raise BadTree(())
    names, stretches, lines = value
    owners = {}
    _check_names_at((0,), names, "moment", owners)
    _check_names_at((1,), stretches, "stretch", owners)
    if not isinstance(lines, tuple):
        raise BadTree((2,))
    seen = set()
    for k, line in enumerate(lines):
        _check_triple_at((2, k), line)
        if not is_free_name(line[0]) or line[0] in seen:
            raise BadTree((2, k, 0))
        seen.add(line[0])
        _check_ties_at((2, k, 1), line[1], owners)
        _check_head_at((2, k, 2), line[2], owners)


def is_sheet(value):
    """Tell whether a value, which may be anything, is a sheet."""
    try:
        check_sheet(value)
    except BadTree:
        return False
    return True


def is_line(sheet, value):
    """Tell whether a value, which may be anything, is a line that could be the only one of a sheet."""
    names, stretches, _ = sheet
    return is_sheet((names, stretches, (value,)))


def moments_of(sheet):
    """Return the tuple of all terms of a sheet, in the order of its moments."""
    names, stretches, _ = sheet
    terms = [("at", name) for name in names]
    for name in stretches:
        terms.extend([("begin", name), ("end", name)])
    return tuple(terms)


def term_numbers(sheet):
    """Return the dict from the terms of a sheet to the numbers of their moments."""
    return {term: number for number, term in enumerate(moments_of(sheet))}


def number_of(sheet, term):
    """Return the number of the moment that a term of a sheet tells."""
    return term_numbers(sheet)[term]


def stretch_ends(sheet, name):
    """Return the numbers of the begin and of the end of the stretch with a name."""
    names, stretches, _ = sheet
    if name not in stretches:
        raise UnknownName(name)
    begin = len(names) + 2 * stretches.index(name)
    return (begin, begin + 1)


def line_named(sheet, name):
    """Return the line with a name."""
    for line in sheet[2]:
        if line[0] == name:
            return line
    raise UnknownName(name)


def _check_triple_at(path, value):
    if not is_triple(value):
        raise BadTree(path)


def _check_names_at(path, names, kind, owners):
    # owners grows: a name of a moment may not be that of a stretch, too.
    if not isinstance(names, tuple):
        raise BadTree(path)
    for k, name in enumerate(names):
        if not is_free_name(name) or name in owners:
            raise BadTree((*path, k))
        owners[name] = kind


def _check_owned_at(path, name, kind, owners):
    if not is_free_name(name) or owners.get(name) != kind:
        raise BadTree(path)


def _check_ties_at(path, ties, owners):
    if not isinstance(ties, tuple):
        raise BadTree(path)
    for k, tie in enumerate(ties):
        if not is_pair(tie):
            raise BadTree((*path, k))
        _check_term_at((*path, k, 0), tie[0], owners)
        _check_term_at((*path, k, 1), tie[1], owners)


def _check_term_at(path, term, owners):
    if not is_pair(term) or term[0] not in ("at", "begin", "end"):
        raise BadTree(path)
    kind = "moment" if term[0] == "at" else "stretch"
    _check_owned_at((*path, 1), term[1], kind, owners)


def _check_head_at(path, head, owners):
    if head == ("never",):
        return
    if not is_triple(head) or head[0] not in (*SIGNS, *WAYS):
        raise BadTree(path)
    for k in (1, 2):
        if head[0] in SIGNS:
            _check_term_at((*path, k), head[k], owners)
        else:
            _check_owned_at((*path, k), head[k], "stretch", owners)
