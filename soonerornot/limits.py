"""Limits above which functions do not work."""

from soonerornot.errors import TooGreat


def check_not_above(number, most):
    """Raise TooGreat() if a number is above the most that is taken."""
    if number > most:
        raise TooGreat()
