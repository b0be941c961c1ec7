"""The lexemes of texts."""

from soonerornot.errors import BadText
from soonerornot.words import DIGITS, LETTERS, LONGEST

# Longer ones first: of the signs that stand at a place the longest one is taken.
LONG_SIGNS = ("<=", "/=")
SHORT_SIGNS = ("{", "}", ";", ",", "<", "=")


def lexemes(text):
    """Return the list of the lexemes of a text as tuples (sort, lexeme, place)."""
    found, wrong = scan(text)
    if wrong is not None:
        raise BadText(wrong)
    return found


def scan(text):
    """Return the lexemes ahead of the first character that begins none, and its place, or None."""
    found = []
    place = 0
    while place < len(text):
        if text[place] in " \n":
            place += 1
            continue
        sort, lexeme = _lexeme_at(text, place)
        if lexeme == "":
            return found, place
        found.append((sort, lexeme, place))
        place += len(lexeme)
    return found, None


def _lexeme_at(text, place):
    if text[place] in LETTERS:
        return "word", _word_at(text, place)
    return "sign", _sign_at(text, place)


def _word_at(text, place):
    end = place + 1
    while end < len(text) and (text[end] in LETTERS or text[end] in DIGITS):
        end += 1
    return text[place:end] if end - place <= LONGEST else ""


def _sign_at(text, place):
    if text[place:place + 2] in LONG_SIGNS:
        return text[place:place + 2]
    return text[place] if text[place] in SHORT_SIGNS else ""
