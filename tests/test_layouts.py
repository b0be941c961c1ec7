import itertools
import unittest

from soonerornot.books import check_book, check_saying
from soonerornot.layouts import book_of_sheet, line_sayings, lines_of
from soonerornot.sheets import check_sheet

NAMES, STRETCHES = ("a", "b"), ("s", "t")
BARE = (NAMES, STRETCHES, ())
A, B = ("at", "a"), ("at", "b")
BS, ES, BT, ET = ("begin", "s"), ("end", "s"), ("begin", "t"), ("end", "t")
TERMS = (A, B, BS, ES, BT, ET)
SIGNS = ("<=", "<", "=", "/=")
# As the document tells them: b and e are the begin and the end of the first stretch, c and f those of the second.
WAYS = {
    "same": "b = c, e = f", "starts": "b = c, e < f", "meets": "e = c", "before": "e < c",
    "started": "b = c, f < e", "ended": "b < c, e = f", "overlaps": "b < c, c < e, e < f",
    "holds": "b < c, f < e", "met": "b = f", "ends": "c < b, e = f", "within": "c < b, e < f",
    "overlapped": "c < b, b < f, f < e", "after": "f < b",
}
TIES = ((), ((A, B),), ((BT, A), (A, A), (A, BT)), ((ES, BT), (A, B), (B, A)))
HEADS = (("never",), *((sign, one, other) for sign in SIGNS for one in TERMS for other in TERMS),
         *((way, one, other) for way in WAYS for one in STRETCHES for other in STRETCHES))
ORDERS = [row for row in itertools.product(range(6), repeat=6) if set(row) == set(range(max(row) + 1))]


def sayings_of_sign(ties, sign, u, v):
    """Return what a sign of two moments tells, with ties as a set."""
    plain = tuple(sorted(ties))
    more = tuple(sorted(ties | {(min(u, v), max(u, v))})) if u != v else plain
    told = {
        "<=": [(plain, (u, v))],
        "=": [(plain, (u, v)), (plain, (v, u))],
        "/=": [(more, None)],
        "<": [(plain, (u, v)), (more, None)],
    }[sign]
    return [saying for saying in told if u != v or saying[1] is None]


def sayings_of(pairs, head):
    """Return what a line tells about the sheet BARE."""
    numbered = [sorted((TERMS.index(one), TERMS.index(other))) for one, other in pairs]
    ties = {(a, b) for a, b in numbered if a != b}
    if head == ("never",):
        return [(tuple(sorted(ties)), None)]
    word, one, other = head
    if word in SIGNS:
        return sayings_of_sign(ties, word, TERMS.index(one), TERMS.index(other))
    ends = dict(zip("becf", (*((2, 3) if one == "s" else (4, 5)), *((2, 3) if other == "s" else (4, 5)))))
    told = []
    for part in WAYS[word].split(", "):
        first, sign, second = part.split()
        told.extend(sayings_of_sign(ties, sign, ends[first], ends[second]))
    return told


def stands(placing, sign, one, other):
    return {"<=": one <= other, "<": one < other, "=": one == other, "/=": one != other}[sign]


def head_holds(placing, head):
    if head == ("never",):
        return False
    word, one, other = head
    if word in SIGNS:
        return stands(placing, word, placing[TERMS.index(one)], placing[TERMS.index(other)])
    b, e = placing[2:4] if one == "s" else placing[4:6]
    c, f = placing[2:4] if other == "s" else placing[4:6]
    values = {"b": b, "e": e, "c": c, "f": f}
    parts = [part.split() for part in WAYS[word].split(", ")]
    return all(stands(placing, sign, values[one], values[other]) for one, sign, other in parts)


def line_holds(placing, pairs, head):
    tied = all(placing[TERMS.index(one)] == placing[TERMS.index(other)] for one, other in pairs)
    return not tied or head_holds(placing, head)


def kept(sayings, placing):
    for ties, head in sayings:
        if all(placing[a] == placing[b] for a, b in ties):
            if head is None or placing[head[0]] > placing[head[1]]:
                return False
    return True


class Lines(unittest.TestCase):
    def check(self, pairs, head, sayings):
        with self.subTest(pairs=pairs, head=head):
            told = line_sayings(BARE, ("x", pairs, head))
            self.assertEqual(told, sayings)
            self.assertIs(type(told), list)
            for saying in told:
                check_saying(6, saying)

    def test_signs_by_hand(self):
        self.check((), ("never",), [((), None)])
        self.check((), ("<=", A, BS), [((), (0, 2))])
        self.check((), ("<=", BS, A), [((), (2, 0))])
        self.check((), ("=", B, A), [((), (1, 0)), ((), (0, 1))])
        self.check((), ("/=", B, A), [(((0, 1),), None)])
        self.check((), ("<", ET, A), [((), (5, 0)), (((0, 5),), None)])

    def test_signs_of_one_term_twice(self):
        self.check((), ("<=", A, A), [])
        self.check((), ("=", A, A), [])
        self.check((), ("/=", A, A), [((), None)])
        self.check((), ("<", A, A), [((), None)])
        self.check(((A, B),), ("<=", A, A), [])
        self.check(((A, B),), ("=", A, A), [])
        self.check(((A, B),), ("/=", A, A), [(((0, 1),), None)])
        self.check(((A, B),), ("<", ES, ES), [(((0, 1),), None)])

    def test_ties_by_hand(self):
        self.check(((B, A),), ("never",), [(((0, 1),), None)])
        self.check(((A, A),), ("never",), [((), None)])
        self.check(((ET, BT), (B, A), (A, B), (A, ET), (ES, ES)), ("<=", B, BS),
                   [(((0, 1), (0, 5), (4, 5)), (1, 2))])

    def test_the_further_tie_stands_in_its_place_and_once(self):
        self.check(((B, ES),), ("/=", A, ET), [(((0, 5), (1, 3)), None)])
        self.check(((A, B),), ("/=", BT, ET), [(((0, 1), (4, 5)), None)])
        self.check(((A, B),), ("/=", B, A), [(((0, 1),), None)])
        self.check(((A, B),), ("<", B, A), [(((0, 1),), (1, 0)), (((0, 1),), None)])
        self.check(((A, B), (ES, BT)), ("<", B, BS),
                   [(((0, 1), (3, 4)), (1, 2)), (((0, 1), (1, 2), (3, 4)), None)])

    def test_ways_by_hand(self):
        self.check((), ("meets", "s", "t"), [((), (3, 4)), ((), (4, 3))])
        self.check((), ("before", "t", "s"), [((), (5, 2)), (((2, 5),), None)])
        self.check(((A, B),), ("started", "s", "t"), [
            (((0, 1),), (2, 4)), (((0, 1),), (4, 2)), (((0, 1),), (5, 3)), (((0, 1), (3, 5)), None)])
        self.check((), ("overlaps", "s", "t"), [
            ((), (2, 4)), (((2, 4),), None), ((), (4, 3)), (((3, 4),), None), ((), (3, 5)), (((3, 5),), None)])
        self.check((), ("same", "s", "s"), [])
        self.check((), ("starts", "s", "s"), [((), None)])
        self.check((), ("before", "s", "s"), [((), (3, 2)), (((2, 3),), None)])

    def test_all_heads_with_ties(self):
        for pairs in TIES:
            for head in HEADS:
                self.check(pairs, head, sayings_of(pairs, head))

    def test_other_names_and_orders(self):
        sheet = (("b",), ("t", "s"), ())
        self.assertEqual(line_sayings(sheet, ("x", ((BS, B),), ("<", ET, BT))),
                         [(((0, 3),), (2, 1)), (((0, 3), (1, 2)), None)])

    def test_each_call_gives_a_new_list(self):
        line = ("x", ((A, B),), ("<", A, ES))
        first = line_sayings(BARE, line)
        first.append(1)
        self.assertEqual(line_sayings(BARE, line), first[:-1])
        self.assertEqual(line, ("x", ((A, B),), ("<", A, ES)))


class Books(unittest.TestCase):
    def check(self, sheet, book, lines):
        with self.subTest(sheet=sheet):
            check_sheet(sheet)
            check_book(book)
            self.assertEqual(book_of_sheet(sheet), book)
            self.assertEqual(lines_of(sheet), lines)
            self.assertEqual(book_of_sheet(sheet), book)
            self.assertEqual(lines_of(sheet), lines)

    def test_without_lines(self):
        self.check(((), (), ()), (0, ()), [])
        self.check((("a", "b"), (), ()), (2, ()), [])
        self.check(((), ("s",), ()), (2, (((), (0, 1)), (((0, 1),), None))), [None, None])
        self.check((("a",), ("s", "t"), ()),
                   (5, (((), (1, 2)), (((1, 2),), None), ((), (3, 4)), (((3, 4),), None))), [None] * 4)

    def test_with_lines(self):
        lines = (("y", (), ("=", A, BS)), ("x", ((A, A),), ("<=", A, A)), ("z", ((A, ES),), ("never",)))
        self.check((("a",), ("s",), lines),
                   (3, (((), (1, 2)), (((1, 2),), None), ((), (0, 1)), ((), (1, 0)), (((0, 2),), None))),
                   [None, None, "y", "y", "z"])

    def test_sayings_that_come_twice_stay(self):
        lines = (("x", (), ("<", BS, ES)), ("y", (), ("<", BS, ES)))
        three = (((), (0, 1)), (((0, 1),), None))
        self.check(((), ("s",), lines), (2, three * 3), [None, None, "x", "x", "y", "y"])

    def test_all_heads_in_one_sheet(self):
        lines = tuple((f"x{k}", TIES[k % 4], head) for k, head in enumerate(HEADS))
        told = [(line[0], saying) for line in lines for saying in sayings_of(line[1], line[2])]
        sayings = [((), (2, 3)), (((2, 3),), None), ((), (4, 5)), (((4, 5),), None), *[row[1] for row in told]]
        self.check((NAMES, STRETCHES, lines), (6, tuple(sayings)), [None] * 4 + [row[0] for row in told])

    def test_each_call_gives_a_new_list(self):
        first = lines_of(((), ("s",), ()))
        first.append(1)
        self.assertEqual(lines_of(((), ("s",), ())), [None, None])


class WhatHolds(unittest.TestCase):
    def test_a_placing_keeps_the_book_exactly_if_the_lines_hold(self):
        self.assertEqual(len(ORDERS), 4683)
        chosen = [head for head in HEADS if head[0] in WAYS or head[0] == "never" or head[1] in (A, ES)]
        for k, head in enumerate(chosen):
            pairs = TIES[k % 4]
            n, sayings = book_of_sheet((NAMES, STRETCHES, (("x", pairs, head),)))
            self.assertEqual(n, 6)
            for placing in ORDERS:
                holds = placing[2] < placing[3] and placing[4] < placing[5] and line_holds(placing, pairs, head)
                if kept(sayings, placing) != holds:
                    self.fail(f"{pairs} {head} {placing}")


if __name__ == "__main__":
    unittest.main()
