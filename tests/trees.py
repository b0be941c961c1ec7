"""What the tests do with values as trees: look for paths in them and exchange parts."""

from soonerornot.desk import Desk
from soonerornot.errors import BadTree


def path_of(check, *arguments):
    """Return the path with which a check refuses its arguments, or None if it does not."""
    try:
        answer = check(*arguments)
    except BadTree as error:
        assert type(error.path) is tuple
        return error.path
    assert answer is None
    return None


def paths(value):
    """Return the paths of all parts of a tree of tuples, each ahead of those in it."""
    found = [()]
    if isinstance(value, tuple):
        for k, member in enumerate(value):
            found.extend((k, *path) for path in paths(member))
    return found


def part(value, path):
    for k in path:
        value = value[k]
    return value


def put(value, path, new):
    """Return a tree with another part at the end of a path."""
    if not path:
        return new
    k = path[0]
    return (*value[:k], put(value[k], path[1:], new), *value[k + 1:])


def nested(depth, sort):
    """Return a value that is nested this deep, all of tuples, of lists or of dicts."""
    value = 0
    for _ in range(depth):
        value = {"tuple": (value,), "list": [value], "dict": {"a": value}}[sort]
    return value


NO_TUPLES = (None, True, False, -1, 10 ** 39, "", "if", "A", "no name", [], ["a"], {}, {"a": 1},
             nested(40, "list"), nested(40, "dict"), Desk())
JUNK = (*NO_TUPLES, ((),), (0, 1, 2, 3), nested(40, "tuple"))
