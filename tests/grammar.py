"""A second, slow reader for the tests: the forms written out, and all ways to go on looked at side by side."""

import re

LEXEME = re.compile(r"[a-z][a-z0-9]*|<=|/=|[{};,<=]")
FIVE = ("if", "then", "never", "begin", "end")
SIGNS = ("<=", "<", "=", "/=")
WAYS = ("same", "starts", "meets", "before", "started", "ended", "overlaps",
        "holds", "met", "ends", "within", "overlapped", "after")

# A form is a tuple of parts, one behind another; a part is a lexeme, NAME, ("any", form, ..) or ("star", part, ..).
TERM = ("any", ("NAME",), ("begin", "NAME"), ("end", "NAME"))
TIE = ("any", (TERM, "=", TERM))
IF = ("any", (), ("if", TIE, ("star", ",", TIE), "then"))
SIGN = ("any", *((sign,) for sign in SIGNS))
WAY = ("any", *((way,) for way in WAYS))
HEAD = ("any", ("never",), (TERM, SIGN, TERM), ("NAME", WAY, "NAME"))
LINE = ("any", ("say", "NAME", IF, HEAD, ";"))
SHEET = ("any", ("sheet", "{", "moments", ("star", "NAME"), ";", "stretches", ("star", "NAME"), ";",
                 ("star", LINE), "}"))
CONSOLE = ("any", (SHEET,), (LINE,), *((word, "NAME", ";") for word in ("moment", "stretch", "drop", "mark", "since")),
           *((word, ";") for word in ("undo", "redo", "can", "placed", "moments", "stretches", "lines")),
           ("follows", IF, HEAD, ";"), ("between", TERM, TERM, ";"), ("ways", "NAME", "NAME", ";"))


def split(text):
    """Return the pairs (lexeme, place) of a text up to the first wrong character, and its place or None."""
    found, place = [], 0
    while place < len(text):
        if text[place] in " \n":
            place += 1
            continue
        match = LEXEME.match(text, place)
        if not match or len(match.group()) > 12:
            return found, place
        found.append((match.group(), place))
        place = match.end()
    return found, None


def expanded(rest):
    """Return all that a rest of a form may be, each one empty or beginning with a lexeme."""
    if not rest or isinstance(rest[0], str):
        return {rest}
    (sort, *inside), tail = rest[0], rest[1:]
    if sort == "star":
        return expanded(tail) | expanded((*inside, *rest))
    return {one for option in inside for one in expanded((*option, *tail))}


def fits(lexeme, wanted):
    if wanted == "NAME":
        return lexeme[0].isalpha() and lexeme not in FIVE
    return lexeme == wanted


def first_wrong(form, text):
    """Return the first wrong place of a text that is read as a form, or None."""
    found, wrong = split(text)
    states = expanded((form,))
    for lexeme, place in found:
        rests = {state[1:] for state in states if state and fits(lexeme, state[0])}
        states = {one for rest in rests for one in expanded(rest)}
        if not states:
            return place
    if wrong is not None:
        return wrong
    return None if () in states else len(text)


def changed(text, others):
    """Return texts that are the text with a lexeme left out, put in, exchanged or told twice, or cut."""
    words = [lexeme for lexeme, _ in split(text)[0]]
    found = [text[:k] for k in range(len(text))]
    found.extend(text[:k] + "\n" + text[k:] for k in range(len(text) + 1))
    for k in range(len(words) + 1):
        found.append(" ".join(words[:k] + words[k + 1:]))
        found.append(" ".join(words[:k] + words[k:k + 1] + words[k:]))
        for other in others:
            found.append(" ".join(words[:k] + [other] + words[k:]))
            found.append(" ".join(words[:k] + [other] + words[k + 1:]) + " ")
    return found
