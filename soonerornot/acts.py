"""Acts: whether they can be done to a sheet, and what becomes of it."""

from soonerornot.books import is_pair
from soonerornot.sheets import is_line, is_sheet

ACT_WORDS = ("sheet", "moment", "stretch", "say", "drop")
MOST_LINES = 30


def word_against(sheet, act):
    """Return the word with which an act, which may be anything, can't be done to a sheet, or None."""
    if not is_pair(act) or act[0] not in ACT_WORDS:
        return "form"
    word, told = act
    if word == "sheet":
        return None if is_sheet(told) else "sheet"
    if word == "say":
        return _word_against_line(sheet, told)
    if word == "drop":
        return None if told in _line_names(sheet) else "name"
    return None if is_sheet(sheet_after(sheet, act)) else "name"


def sheet_after(sheet, act):
    """Return the sheet that becomes of one by an act."""
    names, stretches, lines = sheet
    word, told = act
    if word == "sheet":
        return told
    if word == "moment":
        return ((*names, told), stretches, lines)
    if word == "stretch":
        return (names, (*stretches, told), lines)
    if word == "drop":
        return (names, stretches, tuple([line for line in lines if line[0] != told]))
    if told[0] not in _line_names(sheet):
        return (names, stretches, (*lines, told))
    return (names, stretches, tuple([told if line[0] == told[0] else line for line in lines]))


def _word_against_line(sheet, line):
    if not is_line(sheet, line):
        return "line"
    if len(sheet[2]) >= MOST_LINES and line[0] not in _line_names(sheet):
        return "many"
    return None


def _line_names(sheet):
    return [line[0] for line in sheet[2]]
