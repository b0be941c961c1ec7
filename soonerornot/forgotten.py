"""What a book says of its kept moments alone: a book of these, by which nothing of it is lost."""

from soonerornot.books import is_book
from soonerornot.forgetting import check_kept, lifted, shown_orders
from soonerornot.orders import orders
from soonerornot.placings import keeps_book
from soonerornot.settled import follows
from soonerornot.sharp import sharp


def follows_kept(book, kept, saying):
    """Return whether a saying of the kept moments follows."""
    check_kept(kept)
    return follows(book, lifted(kept, saying))


def sharp_book(book, kept):
    """Return the sharp book of the kept moments."""
    check_kept(kept)
    return (len(kept), tuple(sharp(len(kept), tuple(shown_orders(book, kept)))))


def judge_forgotten(book, kept, value):
    """Return None if a value, which may be anything, is a book that forgets rightly, and otherwise the first fault."""
    check_kept(kept)
    if not is_book(value) or value[0] != len(kept):
        return ("form",)
    shown = shown_orders(book, kept)
    for order in shown:
        if not keeps_book(value, order):
            return ("lost", order)
    for order in orders(len(kept)):
        if order not in shown and keeps_book(value, order):
            return ("more", order)
    return None
