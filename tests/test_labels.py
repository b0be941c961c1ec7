import random
import unittest

from slow import SIX, fault_of, keepers, keeps_fact, some_saying, with_stretches
from soonerornot.books import check_book, check_placing
from soonerornot.labels import judge_label, label, label_paper, placing_with, way_book
from soonerornot.orders import orders
from soonerornot.placings import keeps_book
from soonerornot.together import together_lots
from soonerornot.waylots import is_said
from soonerornot.ways import turned, turned_lot, way_of, way_order
from trees import JUNK, nested, paths, put

ALL = tuple(range(13))
S, T, X = (0, 1), (2, 3), (4, 5)
WIDER = (6, SIX[1][:-1])
NEVER = (4, (((), (0, 1)), (((0, 1),), None), ((), (2, 3)), (((2, 3),), None), ((), None)))


def some_books(seed, many):
    """Return so many triples of a book and two stretches of it, of unlike moments in any sequence."""
    rng = random.Random(seed)
    found = []
    for _ in range(many):
        n = rng.randint(4, 5)
        moments = rng.sample(range(n), 4)
        s, t = tuple(moments[:2]), tuple(moments[2:])
        sayings = [some_saying(rng, n, 2) for _ in range(rng.randint(0, 5))]
        found.append((with_stretches(n, (s, t), [one for one in sayings if one != ((), None)]), s, t))
    return found


BOOKS = some_books(61, 120)


class WayBooks(unittest.TestCase):
    def check(self, book, s, t, way, sayings, facts):
        self.assertEqual(way_book(book, s, t, way), ((book[0], (*book[1], *sayings)), facts))
        self.assertIs(type(way_book(book, s, t, way)), tuple)
        check_book(way_book(book, s, t, way)[0])

    def test_by_hand(self):
        apart = {pair: ((pair,), None) for pair in ((0, 1), (0, 2), (0, 3), (1, 2), (1, 3), (2, 3))}
        self.check(SIX, S, T, 0, [apart[pair] for pair in ((0, 1), (0, 3), (1, 2), (2, 3))],
                   ((0, 1), (0, 2), (0, 3), (1, 3), (2, 0), (2, 1), (2, 3), (3, 1)))
        self.check(SIX, S, T, 2, [apart[pair] for pair in ((0, 1), (0, 2), (0, 3), (1, 3), (2, 3))],
                   ((0, 1), (0, 2), (0, 3), (1, 2), (1, 3), (2, 1), (2, 3)))
        self.check(SIX, S, T, 3, list(apart.values()), ((0, 1), (0, 2), (0, 3), (1, 2), (1, 3), (2, 3)))
        self.check((4, ()), S, T, 12, list(apart.values()), ((0, 1), (2, 0), (2, 1), (2, 3), (3, 0), (3, 1)))

    def test_the_numbers_are_those_of_the_book(self):
        self.check(SIX, (5, 1), (3, 0), 8, [((pair,), None) for pair in ((0, 1), (0, 3), (1, 3), (1, 5), (3, 5))],
                   ((0, 1), (0, 5), (3, 0), (3, 1), (3, 5), (5, 0), (5, 1)))
        self.check((40, ()), (39, 7), (20, 8), 4,
                   [((pair,), None) for pair in ((7, 8), (7, 20), (7, 39), (8, 20), (8, 39))],
                   ((8, 7), (20, 7), (20, 8), (20, 39), (39, 7), (39, 8), (39, 20)))

    def test_what_holds(self):
        for book, s, t in BOOKS[:40]:
            for way in ALL:
                wider, facts = way_book(book, s, t, way)
                self.assertEqual(keepers(wider, facts),
                                 [order for order in keepers(book) if way_of(order, s, t) == way])

    def test_what_was_passed_is_as_it_was_and_the_same_comes_again(self):
        for way in ALL:
            self.assertEqual(way_book(SIX, S, X, way), way_book((6, tuple(list(SIX[1]))), S, X, way))
        self.assertEqual(len(SIX[1]), 9)


class Labels(unittest.TestCase):
    def check(self, book, s, t, lot):
        with self.subTest(book=book, s=s, t=t):
            self.assertEqual(label(book, s, t), lot)
            self.assertIs(type(label(book, s, t)), tuple)

    def test_the_example(self):
        self.check(SIX, S, T, (2, 3))
        self.check(SIX, T, S, (8, 12))
        self.check(WIDER, S, T, ALL)
        self.check(SIX, S, X, (2,))
        self.check(SIX, X, S, (8,))
        # x does not begin behind t.
        self.check(SIX, X, T, (0, 1, 2, 3, 4, 5, 6, 7))
        self.check(WIDER, X, T, ALL)

    def test_a_book_that_can_not_be_kept(self):
        self.check(NEVER, S, T, ())
        self.check((4, (((), (0, 1)), ((), (1, 0)), (((0, 1),), None))), S, T, ())

    def test_few_moments(self):
        for book, s, t in BOOKS:
            found = {way_of(order, s, t) for order in keepers(book)}
            self.check(book, s, t, tuple(sorted(found)))
            self.check(book, t, s, turned_lot(tuple(sorted(found))))
            self.assertTrue(is_said(tuple(sorted(found))))

    def test_three_stretches(self):
        rng = random.Random(62)
        for _ in range(40):
            sayings = [some_saying(rng, 6, 2) for _ in range(rng.randint(2, 6))]
            book = with_stretches(6, (S, T, X), [one for one in sayings if one != ((), None)])
            kept = keepers(book)
            lots = [label(book, one, other) for one, other in ((S, T), (S, X), (X, T))]
            for lot, (one, other) in zip(lots, ((S, T), (S, X), (X, T))):
                self.assertEqual(lot, tuple(sorted({way_of(order, one, other) for order in kept})))
                self.assertTrue(is_said(lot))
            self.assertLessEqual(set(lots[0]), set(together_lots(lots[1], lots[2])))

    def test_great_books(self):
        book = with_stretches(40, [(k, k + 1) for k in range(0, 40, 2)], [((), (k, k + 1)) for k in range(1, 39, 2)])
        self.check(book, (0, 1), (2, 3), (2, 3))
        self.check(book, (0, 1), (38, 39), (3,))
        self.check(book, (38, 39), (0, 1), (12,))


class PlacingWith(unittest.TestCase):
    def test_few_moments(self):
        for book, s, t in (*BOOKS, (SIX, S, T), (NEVER, S, T)):
            found = label(book, s, t)
            for way in ALL:
                placing = placing_with(book, s, t, way)
                self.assertEqual(placing is not None, way in found)
                self.assertEqual(placing_with(book, s, t, way), placing)
                if placing is not None:
                    check_placing(book[0], placing)
                    self.assertTrue(keeps_book(book, placing))
                    self.assertEqual(way_of(placing, s, t), way)


class Papers(unittest.TestCase):
    def check(self, book, s, t):
        paper = label_paper(book, s, t)
        self.assertIs(type(paper), tuple)
        self.assertEqual(len(paper), 13)
        for way, member in enumerate(paper):
            self.assertIs(type(member), tuple)
            word, one = member
            if word == "can":
                check_placing(book[0], one)
                self.assertTrue(keeps_book(book, one))
                self.assertEqual(way_of(one, s, t), way)
            else:
                self.assertEqual(word, "never")
                wider, facts = way_book(book, s, t, way)
                self.assertIsNone(fault_of(wider, facts, None, one))
        self.assertEqual(tuple(way for way, (word, _) in enumerate(paper) if word == "can"), label(book, s, t))
        self.assertIsNone(judge_label(book, s, t, paper))
        self.assertEqual(label_paper(book, s, t), paper)

    def test_the_example(self):
        for one in (S, T, X):
            for other in (S, T, X):
                if one != other:
                    self.check(SIX, one, other)
                    self.check(WIDER, one, other)

    def test_few_moments(self):
        for book, s, t in BOOKS:
            self.check(book, s, t)

    def test_a_book_that_can_not_be_kept(self):
        self.check(NEVER, S, T)

    def test_great_books(self):
        book = with_stretches(40, [(k, k + 1) for k in range(0, 40, 2)], [((), (k, k + 1)) for k in range(1, 39, 2)])
        self.check(book, (0, 1), (38, 39))
        self.check(book, (4, 5), (2, 3))


class Judging(unittest.TestCase):
    PAPER = label_paper(SIX, S, T)

    def check(self, value, fault, book=SIX, s=S, t=T):
        with self.subTest(value=value):
            self.assertEqual(judge_label(book, s, t, value), fault)

    def swapped(self, way, member, value=PAPER):
        return (*value[:way], member, *value[way + 1:])

    def test_right_ones_that_are_not_told_here(self):
        never = tuple((word, ((((0, 0), ("same",)), *self.later(paper)) if word == "never" else paper))
                      for word, paper in self.PAPER)
        self.assertNotEqual(never, self.PAPER)
        self.check(never, None)
        self.check(self.swapped(2, ("can", (-10 ** 39, 5, 5, 10 ** 39, 5, 6))), None)
        self.check(self.swapped(3, ("can", (-7, -6, 0, 1, -6, 5))), None)

    def later(self, rows):
        """Return rows that may stand behind one more."""
        told = []
        for fact, reason in rows:
            if reason[0] == "chain":
                reason = ("chain", reason[1] + 1, reason[2] + 1)
            elif reason[0] == "fire":
                reason = ("fire", reason[1], tuple((i + 1, j + 1) for i, j in reason[2]))
            told.append((fact, reason))
        return told

    def test_form(self):
        for value in (*JUNK, (), list(self.PAPER), self.PAPER[:12], (*self.PAPER, self.PAPER[0]), {"can": self.PAPER}):
            self.check(value, ("form",))
        placing = (0, 1, 2, 3, 1, 2)
        for member in (*JUNK, (), ("can",), ("never",), ("can", placing, 0), ("never", (), 0), ["can", placing],
                       ["never", ()], (placing, "can"), ("Can", placing), (None, placing), ("not", ()), ((), "never"),
                       ("can", list(placing)), ("can", placing[:5]), ("can", (*placing, 1)), ("can", None), ("can", ()),
                       ("can", (0, 1, 2, 3, True, 2)), ("can", (0, 1, 2, 3, None, 2)), ("can", (0, 1, 2, 3, "1", 2)),
                       ("can", (0, 1, 2, 3, (1,), 2)), ("can", nested(40, "tuple"))):
            for way in ALL:
                self.check(self.swapped(way, member), ("form",))

    def test_broken(self):
        for way in ALL:
            for placing in ((0, 0, 2, 3, 1, 2), (0, 1, 2, 3, 2, 4), (0, 2, 1, 3, 2, 4), (1, 0, 2, 3, 0, 1)):
                self.check(self.swapped(way, ("can", placing)), ("broken", way))

    def test_way(self):
        for way in ALL:
            if way != 2:
                self.check(self.swapped(way, ("can", (0, 1, 1, 2, 1, 2))), ("way", way))
            if way != 3:
                self.check(self.swapped(way, ("can", (0, 1, 2, 3, 1, 2))), ("way", way))

    def test_derivation(self):
        for way in ALL:
            for one in (*JUNK, (), (((0, 0), ("same",)),), self.PAPER[5][1][:-1], ((None, ("fire", 0, ())),)):
                self.check(self.swapped(way, ("never", one)), ("derivation", way))
        # One for another way will not do, as it uses other facts.
        wider, facts = way_book(SIX, S, T, 12)
        for way in ALL:
            if fault_of(*way_book(SIX, S, T, way), None, self.PAPER[12][1]) is not None:
                self.check(self.swapped(way, self.PAPER[12]), ("derivation", way))
        self.assertIsNone(fault_of(wider, facts, None, self.PAPER[12][1]))

    def test_a_paper_for_other_stretches(self):
        self.check(self.PAPER, ("derivation", 0), SIX, S, X)
        self.check(self.PAPER, ("derivation", 0), WIDER)
        every = label_paper(WIDER, S, T)
        self.check(every, None, WIDER)
        self.check(every, ("way", 1), WIDER, T, S)
        self.check(every, ("broken", 0))

    def test_of_two_faults_the_first(self):
        broken, other = ("can", (0, 0, 2, 3, 1, 2)), ("can", (0, 1, 2, 3, 1, 2))
        wrong, junk = ("never", 7), ("never",)
        self.check(self.swapped(7, broken, self.swapped(4, other)), ("way", 4))
        self.check(self.swapped(4, broken, self.swapped(7, other)), ("broken", 4))
        self.check(self.swapped(9, wrong, self.swapped(10, broken)), ("derivation", 9))
        self.check(self.swapped(10, wrong, self.swapped(9, broken)), ("broken", 9))
        self.check(self.swapped(8, wrong, self.swapped(1, other)), ("way", 1))
        for member in (broken, other, wrong):
            self.check(self.swapped(12, junk, self.swapped(0, member)), ("form",))
        # A placing that breaks the book and has the stretches another way.
        self.check(self.swapped(4, ("can", (0, 1, 0, 0, 1, 2))), ("broken", 4))

    def test_each_part_exchanged(self):
        for way in (2, 5):
            for path in paths(self.PAPER[way]):
                for new in (*JUNK, (), 0, 1, 3, (0, 1), ("same",), "can", "never"):
                    member = put(self.PAPER[way], path, new)
                    self.check(self.swapped(way, member), self.fault_of_member(way, member))

    def fault_of_member(self, way, member):
        if type(member) is not tuple or len(member) != 2 or member[0] not in ("can", "never"):
            return ("form",)
        word, paper = member
        if word == "never":
            return None if fault_of(*way_book(SIX, S, T, way), None, paper) is None else ("derivation", way)
        if type(paper) is not tuple or len(paper) != 6 or {type(one) for one in paper} != {int}:
            return ("form",)
        if not keeps_book(SIX, paper):
            return ("broken", way)
        return None if way_of(paper, S, T) == way else ("way", way)

    def test_what_was_passed_is_as_it_was(self):
        value = self.swapped(12, ("never", [1, {"a": [2]}]))
        for _ in range(2):
            self.check(value, ("derivation", 12))
        self.assertEqual(value[12], ("never", [1, {"a": [2]}]))


class Ways(unittest.TestCase):
    def test_each_way_of_two_stretches_alone_can_be(self):
        book = with_stretches(4, (S, T), ())
        self.assertEqual(label(book, S, T), ALL)
        for way in ALL:
            self.assertEqual(placing_with(book, S, T, way), way_order(way))
            self.assertEqual(turned(way_of(placing_with(book, T, S, way), S, T)), way)
            wider, facts = way_book(book, S, T, way)
            self.assertEqual([order for order in orders(4) if keeps_book(wider, order) and all(
                keeps_fact(fact, order) for fact in facts)], [way_order(way)])


if __name__ == "__main__":
    unittest.main()
