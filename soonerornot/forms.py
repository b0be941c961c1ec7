"""The forms of texts: each function takes one from a reader and returns what it tells."""

from soonerornot.sheets import SIGNS, WAYS


def take_sheet(reader):
    """Take a SHEET and return the triple that it tells, be it a sheet or not."""
    reader.take("sheet")
    reader.take("{")
    reader.take("moments")
    names = _take_names(reader)
    reader.take("stretches")
    stretches = _take_names(reader)
    lines = []
    while reader.ahead() != "}":
        lines.append(take_line(reader))
    reader.take("}")
    return (names, stretches, tuple(lines))


def take_line(reader):
    """Take a LINE and return it."""
    reader.take("say")
    name = reader.take_name()
    ties = take_ties(reader)
    head = take_head(reader)
    reader.take(";")
    return (name, ties, head)


def take_ties(reader):
    """Take an IF, perhaps nothing, and return its pairs of terms."""
    if reader.ahead() != "if":
        return ()
    reader.take("if")
    ties = [_take_tie(reader)]
    while reader.take(",", "then") == ",":
        ties.append(_take_tie(reader))
    return tuple(ties)


def take_head(reader):
    """Take a HEAD and return it."""
    if reader.ahead() == "never":
        return (reader.take("never"),)
    term = take_term(reader)
    if term[0] == "at" and reader.ahead() in WAYS:
        return (reader.take(*WAYS), term[1], reader.take_name())
    return (reader.take(*SIGNS), term, take_term(reader))


def take_term(reader):
    """Take a TERM and return it; a NAME by itself is a moment's."""
    word = reader.take("begin", "end") if reader.ahead() in ("begin", "end") else "at"
    return (word, reader.take_name())


def _take_tie(reader):
    one = take_term(reader)
    reader.take("=")
    return (one, take_term(reader))


def _take_names(reader):
    names = []
    while reader.ahead() != ";":
        names.append(reader.take_name())
    reader.take(";")
    return tuple(names)
