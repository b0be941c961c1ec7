"""Names, integers and numbers."""

LETTERS = "abcdefghijklmnopqrstuvwxyz"
DIGITS = "0123456789"
LONGEST = 12
FIVE_WORDS = ("if", "then", "never", "begin", "end")


def is_name(value):
    """Tell whether a value, which may be anything, is a name."""
    if not isinstance(value, str) or not 1 <= len(value) <= LONGEST:
        return False
    return value[0] in LETTERS and all(sign in LETTERS or sign in DIGITS for sign in value)


def is_free_name(value):
    """Tell whether a value, which may be anything, is a name and none of the five words."""
    return is_name(value) and value not in FIVE_WORDS


def is_integer(value):
    """Tell whether a value, which may be anything, is an integer."""
    return isinstance(value, int) and not isinstance(value, bool)


def is_number(value):
    """Tell whether a value, which may be anything, is an integer of at least 0."""
    return is_integer(value) and value >= 0
