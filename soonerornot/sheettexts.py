"""The texts of sheets, lines and terms, written and read."""

from soonerornot.forms import take_line, take_sheet, take_term
from soonerornot.readers import Reader
from soonerornot.sheets import SIGNS, check_sheet


def sheet_text(sheet):
    """Return the written text of a sheet."""
    names, stretches, lines = sheet
    rows = ["sheet {", _names_text("moments", names), _names_text("stretches", stretches)]
    rows.extend([line_text(line) for line in lines])
    rows.append("}")
    return "".join([row + "\n" for row in rows])


def line_text(line):
    """Return the written text of a line, without a line feed."""
    name, ties, head = line
    return f"say {name} {_ties_text(ties)}{_head_text(head)};"


def term_text(term):
    """Return the written text of a term."""
    word, name = term
    return name if word == "at" else f"{word} {name}"


def read_line(text):
    """Return the line that a text tells; raise BadText(place) if it has not the form."""
    reader = Reader(text)
    line = take_line(reader)
    reader.finish()
    return line


def read_term(text):
    """Return the term that a text tells; raise BadText(place) if it has not the form."""
    reader = Reader(text)
    term = take_term(reader)
    reader.finish()
    return term


def read_sheet(text):
    """Return the sheet that a text tells; raise BadText(place), or BadTree(path) if it tells none."""
    reader = Reader(text)
    sheet = take_sheet(reader)
    reader.finish()
    check_sheet(sheet)
    return sheet


def _names_text(word, names):
    return " ".join([word, *names]) + ";"


def _ties_text(ties):
    if not ties:
        return ""
    pairs = [f"{term_text(one)} = {term_text(other)}" for one, other in ties]
    return "if " + ", ".join(pairs) + " then "


def _head_text(head):
    if head == ("never",):
        return "never"
    word, one, other = head
    if word in SIGNS:
        return f"{term_text(one)} {word} {term_text(other)}"
    return f"{one} {word} {other}"
