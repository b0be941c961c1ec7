"""Books that follow from one another."""

from soonerornot.settled import follows, settle


def follows_all(book, other):
    """Return whether another book of as many moments follows from a book."""
    return all(follows(book, saying) for saying in other[1])


def first_apart(book, other):
    """Return the number of a saying of another book that does not follow, and a placing for it, or None."""
    for k, saying in enumerate(other[1]):
        if not follows(book, saying):
            return (k, settle(book, saying)[1])
    return None


def are_alike(book, other):
    """Return whether two books follow from one another."""
    return follows_all(book, other) and follows_all(other, book)
