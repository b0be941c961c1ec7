"""What follows from a book, and what doesn't, each with a paper."""

from soonerornot.books import is_pair, is_placing
from soonerornot.closures import Closure
from soonerornot.derivations import derivation, judge_derivation
from soonerornot.lineups import class_leasts, lined_up
from soonerornot.placings import first_broken, keeps


def classes(book, given):
    """Return the list of the classes of a book and given facts."""
    found = {}
    for moment, least in enumerate(class_leasts(Closure(book, given))):
        found.setdefault(least, []).append(moment)
    return [tuple(moments) for moments in found.values()]


def told_placing(book, given):
    """Return the told placing of a book and given facts, or None if None is derived."""
    closure = Closure(book, given)
    if closure.derived(None):
        return None
    return lined_up(closure, 0, ())


def placing_against(book, given, fact):
    """Return the placing against a fact of two unlike moments, or None if it or None is derived."""
    closure = Closure(book, given)
    if closure.derived(None) or closure.derived(fact):
        return None
    return lined_up(closure, closure.sooner[fact[1]], ())


def given_by(ties):
    """Return the tuple of the facts given by ties."""
    return tuple([fact for a, b in ties for fact in ((a, b), (b, a))])


def follows(book, saying):
    """Return whether a saying follows from a book."""
    ties, head = saying
    closure = Closure(book, given_by(ties))
    return closure.derived(head) or closure.derived(None)


def settle(book, saying):
    """Return ("follows", derivation) if a saying follows from a book, and otherwise ("not", placing)."""
    ties, head = saying
    given = given_by(ties)
    for fact in (head, None):
        paper = derivation(book, given, fact)
        if paper is not None:
            return ("follows", paper)
    if head is None:
        return ("not", told_placing(book, given))
    return ("not", placing_against(book, given, head))


def can_keep(book):
    """Return whether a book can be kept."""
    return not Closure(book, ()).derived(None)


def keep(book):
    """Return ("kept", placing) if a book can be kept, and otherwise ("never", derivation)."""
    placing = told_placing(book, ())
    if placing is None:
        return ("never", derivation(book, (), None))
    return ("kept", placing)


def judge_settled(book, saying, value):
    """Return None if a value, which may be anything, settles a saying rightly, and otherwise the first fault."""
    if not is_pair(value):
        return ("form",)
    word, paper = value
    if word == "follows":
        return _judge_paper(book, saying, paper)
    if word != "not" or not is_placing(book[0], paper):
        return ("form",)
    k = first_broken(book, paper)
    if k is not None:
        return ("breaks", k)
    return ("keeps",) if keeps(saying, paper) else None


def what_can_be(book, u, v):
    """Return the list of the words that tell how a moment can stand to another one."""
    closure = Closure(book, ())
    if closure.derived(None):
        return []
    words = []
    if not closure.derived((v, u)):
        words.append("before")
    if not Closure(book, ((u, v), (v, u))).derived(None):
        words.append("at once")
    if not closure.derived((u, v)):
        words.append("behind")
    return words


def _judge_paper(book, saying, paper):
    ties, head = saying
    fact = None if _ends_with_none(paper) else head
    fault = judge_derivation(book, given_by(ties), fact, paper)
    return None if fault is None else ("derivation", fault)


def _ends_with_none(paper):
    """Tell whether a paper, which may be anything, has a last row that is a pair beginning with None."""
    if not isinstance(paper, tuple) or not paper:
        return False
    return is_pair(paper[-1]) and paper[-1][0] is None
