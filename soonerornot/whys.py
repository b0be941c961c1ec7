"""Lots of a book's sayings: the least ones that can't be kept, the greatest ones that can.

Within the functions a lot is a mask, which has the bits of its sayings.
"""

from soonerornot.closures import bits
from soonerornot.limits import check_not_above
from soonerornot.settled import can_keep
from soonerornot.words import is_number

MOST_SAYINGS = 14


def check_size(book):
    """Raise TooGreat() if a book has too many sayings."""
    check_not_above(len(book[1]), MOST_SAYINGS)


def book_of_lot(book, lot):
    """Return the book of a lot."""
    n, sayings = book
    return (n, tuple([sayings[k] for k in lot]))


def least_lots(book):
    """Return the ascending list of all least lots."""
    least, _ = both_lots(book)
    return least


def greatest_lots(book):
    """Return the ascending list of all greatest lots."""
    _, greatest = both_lots(book)
    return greatest


def both_lots(book):
    """Return the ascending lists of all least and of all greatest lots."""
    check_size(book)
    least = []
    greatest = []
    for mask in range(1 << len(book[1])):
        if holds_one(mask, least) or lies_within_one(mask, greatest):
            continue
        # All lots within this one have a lesser number, and none of them holds a least lot.
        if _can(book, mask):
            greatest.append(_grown(book, least, mask))
        else:
            least.append(mask)
    return _told(least), _told(greatest)


def judge_least(book, value):
    """Return whether a value, which may be anything, is a least lot."""
    check_size(book)
    if not is_lot(book, value) or can_keep(book_of_lot(book, value)):
        return False
    mask = mask_of(value)
    return all(_can(book, mask ^ 1 << k) for k in value)


def judge_greatest(book, value):
    """Return whether a value, which may be anything, is a greatest lot."""
    check_size(book)
    if not is_lot(book, value) or not can_keep(book_of_lot(book, value)):
        return False
    mask = mask_of(value)
    return not any(_can(book, mask | 1 << k) for k in range(len(book[1])) if k not in value)


def is_lot(book, value):
    """Tell whether a value, which may be anything, is a lot of a book."""
    if not isinstance(value, tuple) or not all(is_number(k) and k < len(book[1]) for k in value):
        return False
    return all(i < k for i, k in zip(value, value[1:]))


def mask_of(lot):
    """Return the mask that has the bits of a lot, each once."""
    mask = 0
    for k in lot:
        mask |= 1 << k
    return mask


def holds_one(mask, masks):
    """Tell whether a mask holds all of one of some others."""
    return any(mask & one == one for one in masks)


def lies_within_one(mask, masks):
    """Tell whether one of some other masks holds all of a mask."""
    return any(mask & one == mask for one in masks)


def _can(book, mask):
    """Tell whether a lot can be kept."""
    return can_keep(book_of_lot(book, bits(mask)))


def _grown(book, least, mask):
    """Return a greatest lot that holds one which can be kept, some least lots being known."""
    for k in range(len(book[1])):
        wider = mask | 1 << k
        if not holds_one(wider, least) and _can(book, wider):
            mask = wider
    return mask


def _told(masks):
    """Return the ascending list of the lots of some masks."""
    return sorted([tuple(bits(mask)) for mask in masks])
