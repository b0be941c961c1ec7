import random
import time
import unittest

from slow import fault_of
from soonerornot.books import check_placing
from soonerornot.errors import TooGreat
from soonerornot.placings import keeps_book
from soonerornot.whys import book_of_lot, greatest_lots, least_lots
from soonerornot.whytrees import full_why, judge_why
from test_whys import B, BOOKS, GREATEST, LEAST, ring, some_books
from trees import JUNK, nested, paths, put

LOW, HIGH = tuple(LEAST), tuple(GREATEST)
WHY = full_why(B)
# A tree by hand: it takes 0, 1 and 2 first, and then 3 or 4.
TREE = (("split", 0, 1, 2), ("split", 1, 3, 4), ("high", 3), ("split", 2, 5, 6), ("high", 2), ("split", 3, 7, 8),
        ("high", 1), ("low", 0), ("split", 4, 9, 10), ("low", 1), ("high", 0))
RIGHT = (*WHY[:2], TREE)


def with_tree(tree):
    return (*WHY[:2], tree)


def walk_of(tree, number):
    """Return the pair of what the walk to a node takes and drops, as lists, where each is named once."""
    for above, node in enumerate(tree):
        if node[0] == "split" and number in node[2:]:
            taken, dropped = walk_of(tree, above)
            (taken if number == node[2] else dropped).append(node[1])
            return taken, dropped
    return [], []


def slow_fault(book, low, high, value):
    """Return what judge_why must tell, straight from its words."""
    for sort, lots in ((0, low), (1, high)):
        for i, one in enumerate(lots):
            for j, other in enumerate(lots):
                if i != j and set(one) <= set(other):
                    return ("within", sort, i, j)
    if not slow_formed(book, low, high, value):
        return ("form",)
    rows, placings, tree = value
    for i, lot in enumerate(low):
        if fault_of(book_of_lot(book, lot), (), None, rows[i]):
            return ("derivation", i)
    for i, lot in enumerate(high):
        if not keeps_book(book_of_lot(book, lot), placings[i]):
            return ("placing", i)
    named = [number for node in tree if node[0] == "split" for number in node[2:]]
    for number in range(1, len(tree)):
        if named.count(number) != 1:
            return ("named", number)
    for number, node in enumerate(tree):
        taken, dropped = walk_of(tree, number)
        if node[0] == "split" and node[1] in taken + dropped:
            return ("again", number)
    for number, node in enumerate(tree):
        taken, dropped = walk_of(tree, number)
        if node[0] == "low" and not set(low[node[1]]) <= set(taken):
            return ("low", number)
        if node[0] == "high" and not set(range(len(book[1]))) - set(high[node[1]]) <= set(dropped):
            return ("high", number)
    return None


def slow_formed(book, low, high, value):
    if type(value) is not tuple or [type(part) for part in value] != [tuple] * 3:
        return False
    rows, placings, tree = value
    if (len(rows), len(placings)) != (len(low), len(high)) or not tree:
        return False
    try:
        for placing in placings:
            check_placing(book[0], placing)
    except ValueError:
        return False
    return all(node_formed(node, number, len(book[1]), len(low), len(high), len(tree))
               for number, node in enumerate(tree))


def node_formed(node, number, sayings, lows, highs, nodes):
    if type(node) is not tuple or not node or {type(k) for k in node[1:]} != {int}:
        return False
    if node[0] == "split":
        return (len(node) == 4 and 0 <= node[1] < sayings and number < min(node[2:]) and max(node[2:]) < nodes and
                node[2] != node[3])
    return len(node) == 2 and node[0] in ("low", "high") and 0 <= node[1] < (lows if node[0] == "low" else highs)


class FullWhys(unittest.TestCase):
    def check(self, book):
        with self.subTest(book=book):
            low, high = tuple(least_lots(book)), tuple(greatest_lots(book))
            why = full_why(book)
            self.assertEqual([type(part) for part in (why, *why)], [tuple] * 4)
            self.assertIsNone(slow_fault(book, low, high, why))
            self.assertIsNone(judge_why(book, low, high, why))
            self.assertEqual(full_why(book), why)
            return why

    def test_row_by_row_and_node_by_node(self):
        for book in BOOKS:
            self.check(book)

    def test_the_example(self):
        rows, placings, tree = self.check(B)
        self.assertEqual((len(rows), len(placings)), (2, 4))
        # The sayings of a lot are numbered as they stand in it, so saying 4 is number 3 of its book.
        self.assertEqual([row[-1][0] for row in rows], [None, None])
        self.assertEqual([row[-1][1][:2] for row in rows], [("fire", 3), ("fire", 3)])

    def test_books_that_can_be_kept(self):
        self.assertEqual(self.check((0, ())), ((), ((),), (("high", 0),)))
        self.assertEqual(self.check((2, (((), (0, 1)),))), ((), ((0, 1),), (("high", 0),)))

    def test_a_saying_that_nothing_keeps(self):
        why = self.check((0, (((), None),)))
        self.assertEqual(why[:2], ((((None, ("fire", 0, ())),),), ((),)))
        self.assertEqual(why[2], (("split", 0, 1, 2), ("low", 0), ("high", 0)))

    def test_rings(self):
        for apart in ((0,), (0, 5), (0, 4, 9)):
            self.check(ring(11, apart))

    def test_fourteen_sayings(self):
        begun = time.process_time()
        twice = (7, tuple(((), (k // 2, k // 2 + 1)) for k in range(12)) + (((), (6, 0)), (((0, 1),), None)))
        why = self.check(twice)
        self.assertEqual((len(why[0]), len(why[1])), (64, 8))
        for book in some_books(141, 5):
            self.check((book[0], (book[1] * 14)[:14]))
        self.assertLess(time.process_time() - begun, 60)

    def test_fifteen_sayings_are_too_many(self):
        book = (2, (((), (0, 1)),) * 15)
        for call in (lambda: full_why(book), lambda: judge_why(book, (), (), None),
                     lambda: judge_why(book, ((0,), (0,)), (), None)):
            with self.assertRaises(TooGreat):
                call()


class Judging(unittest.TestCase):
    def check(self, value, fault, low=LOW, high=HIGH, book=B):
        with self.subTest(value=value, low=low, high=high):
            self.assertEqual(slow_fault(book, low, high, value), fault)
            self.assertEqual(judge_why(book, low, high, value), fault)

    def test_right_ones(self):
        self.check(WHY, None)
        self.check(RIGHT, None)

    def test_within(self):
        self.check(WHY, ("within", 0, 0, 2), (*LOW, (0, 1, 2, 3)))
        self.check(None, ("within", 0, 0, 2), ((0,), (1,), (0, 3)))
        self.check(None, ("within", 0, 1, 0), ((0, 3), (0,), (3,)))
        self.check(None, ("within", 0, 1, 2), ((0, 1), (3, 4), (2, 3, 4), (0, 3, 4)))
        self.check(None, ("within", 0, 0, 1), ((), (0,)))
        self.check(None, ("within", 0, 1, 0), ((0,), ()))
        self.check(WHY, ("within", 1, 0, 4), LOW, (*HIGH, (0, 1, 2)))
        self.check(None, ("within", 1, 0, 1), (), ((0, 1), (0, 1, 2)))
        self.check(None, ("within", 1, 1, 0), (), ((0, 1, 2), (0, 1)))
        self.check(None, ("within", 1, 1, 2), (), ((0,), (3,), (3, 4), (3,)))
        # Of both sorts that of low is the first one.
        self.check(None, ("within", 0, 0, 1), ((0,), (0,)), ((0, 1), (0, 1, 2)))

    def test_form(self):
        rows, placings, tree = WHY
        for value in (*JUNK, WHY[:2], (*WHY, ()), list(WHY), (list(rows), placings, tree), (rows, list(placings), tree),
                      (rows, placings, list(tree)), (rows[:1], placings, tree), ((*rows, rows[0]), placings, tree),
                      (rows, placings[:3], tree), (rows, (*placings, placings[0]), tree), (rows, placings, ()),
                      (None, placings, tree), (rows, None, tree), (rows, placings, None), nested(40, "tuple")):
            self.check(value, ("form",))
        for wrong in ((0, 0), (0, 0, 0, 0), (0, 0, True), (0, 0, None), [0, 0, 0], None, ()):
            self.check(put(WHY, (1, 2), wrong), ("form",))

    def test_nodes_by_themselves(self):
        for wrong in (None, (), "low", ["low", 0], ("low",), ("low", 0, 0), ("low", -1), ("low", 2), ("low", True),
                      ("low", "0"), ("low", None), ("LOW", 0), ("high", 4), ("high", 0, 1), ("high", 10 ** 39),
                      (0, "low"), (None, 0), (("low",), 0), ("low", (0,)), ("split", 4, 9), ("split", 4),
                      ("split", 4, 9, 10, 10), ("split", 5, 9, 10), ("split", -1, 9, 10), ("split", False, 9, 10),
                      ("split", 4, 9, 9), ("split", 4, 8, 10), ("split", 4, 9, 8), ("split", 4, 9, 11),
                      ("split", 4, 0, 10), ("split", 4, 9, "10"), ("split", None, 9, 10), ("split", 4, -1, 10)):
            self.check(with_tree(put(TREE, (8,), wrong)), ("form",))
        for number in (0, 10):
            self.check(with_tree(put(TREE, (number,), ("split", 4, 5, number))), ("form",))
        self.check(with_tree((("split", 0, 1, 2),)), ("form",))

    def test_derivation(self):
        for i in range(2):
            for wrong in (*JUNK, WHY[0][i][:-1], WHY[0][i][1:], put(WHY[0][i], (-1 % len(WHY[0][i]), 1, 1), 4)):
                self.check(put(WHY, (0, i), wrong), ("derivation", i))
        # Numbers of the whole book's sayings are not those of the lot's book.
        whole = tuple((fact, ("fire", 4, reason[2])) if reason[:2] == ("fire", 3) else (fact, reason)
                      for fact, reason in WHY[0][1])
        self.check(put(WHY, (0, 1), whole), ("derivation", 1))
        self.check(put(put(WHY, (0, 0), ()), (0, 1), ()), ("derivation", 0))

    def test_placing(self):
        wrong = {0: (0, 1, 2), 1: (0, 0, 1), 2: (0, 0, 0), 3: (2, 1, 0)}
        for i, placing in wrong.items():
            self.check(put(WHY, (1, i), placing), ("placing", i))
        self.check(put(WHY, (1, 0), (7, 7, 7)), None)
        self.check(put(put(WHY, (1, 3), wrong[3]), (1, 1), wrong[1]), ("placing", 1))

    def test_named(self):
        self.check(with_tree((*TREE, ("low", 0))), ("named", 11))
        self.check(with_tree(put(TREE, (0, 3), 3)), ("named", 2))
        self.check(with_tree(put(TREE, (8, 3), 9)), ("form",))
        self.check(with_tree(put(TREE, (5, 3), 9)), ("named", 8))
        self.check(with_tree((("high", 0), ("low", 0))), ("named", 1))
        self.check(with_tree((("split", 0, 1, 2), ("split", 1, 2, 3), ("low", 0), ("low", 0))), ("named", 2))
        self.check(with_tree((*TREE, ("low", 0), ("low", 0))), ("named", 11))

    def test_again(self):
        self.check(with_tree(put(TREE, (8, 1), 3)), ("again", 8))
        self.check(with_tree(put(TREE, (1, 1), 0)), ("again", 1))
        self.check(with_tree(put(put(TREE, (8, 1), 3), (3, 1), 1)), ("again", 3))
        # On another walk the same saying may be split.
        four = (("split", 4, 1, 2), ("split", 0, 3, 4), ("split", 0, 5, 6), ("high", 0), ("high", 0), ("high", 0),
                ("high", 0))
        self.check(with_tree(four), ("high", 3))

    def test_low_and_high(self):
        self.check(with_tree(put(TREE, (7, 1), 1)), ("low", 7))
        self.check(with_tree(put(TREE, (9, 1), 0)), ("low", 9))
        self.check(with_tree(put(TREE, (10, 1), 1)), ("high", 10))
        self.check(with_tree(put(TREE, (10,), ("low", 0))), ("low", 10))
        self.check(with_tree(put(TREE, (7,), ("high", 0))), ("high", 7))
        self.check(with_tree((("low", 0),)), ("low", 0))
        self.check(with_tree((("high", 0),)), ("high", 0))
        # Node by node: the first one of either sort.
        self.check(with_tree(put(put(TREE, (7, 1), 1), (4, 1), 3)), ("high", 4))
        self.check(with_tree(put(put(TREE, (7, 1), 1), (10, 1), 3)), ("low", 7))

    def test_leaves_that_come_late_are_right(self):
        late = (*put(TREE, (2,), ("split", 1, 11, 12)), ("high", 3), ("high", 3))
        self.check(with_tree(late), None)
        late = (*put(TREE, (7,), ("split", 4, 11, 12)), ("low", 1), ("low", 0))
        self.check(with_tree(late), None)
        self.check(with_tree(put(late, (12, 1), 1)), ("low", 12))

    def test_of_two_faults_the_first(self):
        self.check(put(WHY, (0,), None), ("within", 0, 0, 2), (*LOW, (0, 1, 2, 3)))
        self.check(put(put(WHY, (0, 0), None), (1, 0), None), ("form",))
        self.check(put(put(WHY, (0, 0), None), (2, 0), None), ("form",))
        self.check(put(put(WHY, (0, 1), None), (1, 0), (0, 1, 2)), ("derivation", 1))
        tree = (*put(TREE, (7, 1), 1), ("low", 0))
        self.check(put(with_tree(tree), (1, 3), (2, 1, 0)), ("placing", 3))
        self.check(with_tree(tree), ("named", 11))
        self.check(with_tree(put((*TREE, ("low", 0)), (8, 1), 3)), ("named", 11))
        self.check(with_tree(put(put(TREE, (7, 1), 1), (8, 1), 3)), ("again", 8))

    def test_a_lot_too_many_or_too_few(self):
        rows, placings, tree = RIGHT
        # Without the lot (0, 1, 2, 4) the walk that takes 4 has no leaf.
        for node in (("low", 0), ("high", 0), ("high", 3)):
            self.check((rows[:1], placings, put(TREE, (9,), node)), (node[0], 9), LOW[:1])
        self.check((rows[:1], placings, TREE), ("form",), LOW[:1])
        for node in (("low", 1), ("high", 0), ("high", 1)):
            less = (rows, placings[1:], put(put(put(put(TREE, (10,), node), (2, 1), 2), (4, 1), 1), (6, 1), 0))
            self.check(less, (node[0], 10), LOW, HIGH[1:])
        self.check((rows, placings[1:], TREE), ("form",), LOW, HIGH[1:])
        # One that can be kept too many in low, ones that can't in high: no paper shows it.
        self.check(((*rows, rows[0]), placings, tree), ("derivation", 2), (*LOW, (3, 4)))
        self.check((rows, (*placings, (0, 0, 0)), tree), ("within", 1, 4, 0), LOW, (*HIGH, (1, 2)))
        self.check((rows, placings, tree), ("within", 0, 0, 2), (*LOW, (0, 1, 2, 3, 4)))
        high = (HIGH[0], (0, 1, 2, 3), (0, 1, 2, 4))
        self.check((rows, ((0, 0, 0),) * 3, tree), ("within", 1, 0, 1), LOW, high)
        self.check((rows, ((0, 0, 0),) * 2, (("high", 0),)), ("placing", 0), LOW, high[1:])

    def test_another_sequence(self):
        rows, placings, _ = RIGHT
        other = tuple(("low", 1 - node[1]) if node[0] == "low" else ("high", 3 - node[1]) if node[0] == "high" else node
                      for node in TREE)
        self.check((rows[::-1], placings[::-1], other), None, LOW[::-1], HIGH[::-1])
        self.check((rows[::-1], placings[::-1], TREE), ("high", 2), LOW[::-1], HIGH[::-1])
        self.check((rows[::-1], placings, TREE), ("low", 7), LOW[::-1])

    def test_each_part_exchanged(self):
        for path in paths(RIGHT):
            for new in (*JUNK, 0, 1, 2, 3, ("low", 0), ("high", 1), ("split", 0, 9, 10), (0, 1), (0, 1, 2)):
                value = put(RIGHT, path, new)
                self.assertEqual(judge_why(B, LOW, HIGH, value), slow_fault(B, LOW, HIGH, value), value)

    def test_changed_trees(self):
        rng = random.Random(142)
        seen = set()
        for _ in range(3000):
            tree = TREE
            for _ in range(rng.randint(1, 2)):
                number = rng.randrange(len(tree))
                node = rng.choice((("low", rng.randrange(2)), ("high", rng.randrange(4)),
                                   ("split", rng.randrange(5), *rng.sample(range(1, 12), 2))))
                tree = put(tree, (number,), node)
            if rng.random() < 0.5:
                tree = (*tree, ("high", 0))
            fault = judge_why(B, LOW, HIGH, with_tree(tree))
            self.assertEqual(fault, slow_fault(B, LOW, HIGH, with_tree(tree)), tree)
            seen.add(fault and fault[0])
        self.assertLessEqual({"form", "named", "again", "low", "high"}, seen)

    def test_lots_of_other_books(self):
        for book in BOOKS:
            low, high = tuple(least_lots(book)), tuple(greatest_lots(book))
            why = full_why(book)
            for i in range(len(low)):
                less = (why[0][:i] + why[0][i + 1:], *why[1:])
                fault = slow_fault(book, low[:i] + low[i + 1:], high, less)
                self.assertIsNotNone(fault)
                self.check(less, fault, low[:i] + low[i + 1:], high, book)
            for i in range(len(high)):
                less = (why[0], why[1][:i] + why[1][i + 1:], why[2])
                fault = slow_fault(book, low, high[:i] + high[i + 1:], less)
                self.assertIsNotNone(fault)
                self.check(less, fault, low, high[:i] + high[i + 1:], book)

    def test_great_values(self):
        nodes = tuple(("split", k % 5, 2 * k + 1, 2 * k + 2) for k in range(3333)) + (("high", 0),) * 3334
        self.assertEqual(judge_why(B, LOW, HIGH, with_tree(nodes)), ("again", 5))
        chain = tuple(("split", 0, k + 1, k + 2) for k in range(4000)) + (("high", 0),) * 2
        self.assertEqual(judge_why(B, LOW, HIGH, with_tree(chain)), ("named", 2))

    def test_what_was_passed_is_as_it_was(self):
        value = (WHY[0], WHY[1], [TREE, {"a": [1]}])
        for _ in range(2):
            self.assertEqual(judge_why(B, LOW, HIGH, value), ("form",))
        self.assertEqual(value, (WHY[0], WHY[1], [TREE, {"a": [1]}]))


if __name__ == "__main__":
    unittest.main()
