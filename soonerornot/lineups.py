"""Placings made by putting classes one behind another."""

from soonerornot.closures import bits


def class_leasts(closure):
    """Return the list that has for each moment the least one of its class."""
    return [bits(later & sooner)[0] for later, sooner in zip(closure.later, closure.sooner)]


def lined_up(closure, first, broken):
    """Return the placing that puts the classes at 0, 1, 2 and so on, or None if they go round in a circle.

    The classes of the moments of `first`, a mask, are put ahead of all others. A class comes behind
    those that it is behind, and that of the first moment of each fact to be broken behind that of its
    second one. Of the classes that can be the next one it is the one with the least moment.
    """
    leasts = class_leasts(closure)
    lot = 0
    for least in leasts:
        lot |= 1 << least
    ahead = [mask & lot & ~(1 << u) for u, mask in enumerate(closure.sooner)]
    for u, v in broken:
        ahead[leasts[u]] |= 1 << leasts[v]
    line = _line_of(ahead, lot & first) + _line_of(ahead, lot & ~first)
    places = {least: place for place, least in enumerate(line)}
    if len(places) < len(bits(lot)):
        return None
    return tuple([places[least] for least in leasts])


def _line_of(ahead, lot):
    """Return the members of a lot in a line, up to where none of the others can be the next one."""
    line = []
    left = lot
    while left:
        free = [u for u in bits(left) if ahead[u] & left == 0]
        if not free:
            return line
        line.append(free[0])
        left ^= 1 << free[0]
    return line
