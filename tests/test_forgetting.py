import itertools
import random
import time
import unittest

from slow import all_sayings, fault_of, great_case, keepers, row_of_moments, some_book
from soonerornot.books import check_placing, check_saying
from soonerornot.errors import TooGreat
from soonerornot.forgetting import (can_fill, filling, judge_filling, judge_refusal, lifted, refusal, shown_by,
                                    shown_orders)
from soonerornot.orders import orders
from soonerornot.placings import keeps, keeps_book
from soonerornot.settled import given_by
from trees import JUNK, nested, paths, put

B = (4, (((), (0, 3)), ((), (3, 1)), (((0, 1),), (2, 0))))
KEPT = (0, 1, 2)
NEVER = (3, (((), (0, 1)), (((0, 1),), None), ((), (1, 2)), ((), (2, 0))))
REFUSED = ((((0, 1),), (2, 0)), (((0, 1), ("given", 0)), ((1, 0), ("given", 1)), ((2, 0), ("fire", 2, ((0, 1),)))))


def some_books(seed, many):
    """Return so many pairs of a book of at most five moments and some moments of it."""
    rng = random.Random(seed)
    found = []
    for _ in range(many):
        n = rng.randint(0, 5)
        kept = tuple(sorted(rng.sample(range(n), rng.randint(0, min(n, 4)))))
        found.append((some_book(rng, n, 6), kept))
    return found


CASES = [*some_books(111, 150), (B, KEPT), (B, ()), (NEVER, ()), (NEVER, (0, 2)), (B, (0, 1, 2, 3)), ((0, ()), ()),
         ((0, (((), None),)), ())]


def slow_shown(book, kept):
    """Return the shown orders, straight from all orders that keep the book."""
    return sorted({shown_by(kept, order) for order in keepers(book)})


class Lifting(unittest.TestCase):
    def test_the_example(self):
        self.assertEqual(lifted((1, 3), ((), (1, 0))), ((), (3, 1)))

    def test_by_hand(self):
        self.assertEqual(lifted((), ((), None)), ((), None))
        self.assertEqual(lifted((7,), ((), None)), ((), None))
        self.assertEqual(lifted((2, 5, 39), (((0, 1), (1, 2)), (2, 0))), (((2, 5), (5, 39)), (39, 2)))
        self.assertEqual(lifted((0, 1, 4, 6), (((0, 3), (1, 2), (2, 3)), None)), (((0, 6), (1, 4), (4, 6)), None))

    def test_what_holds(self):
        rng = random.Random(112)
        for saying in rng.sample(all_sayings(4), 200):
            kept = tuple(sorted(rng.sample(range(9), 4)))
            check_saying(9, lifted(kept, saying))
            placing = tuple(rng.randint(0, 2) for _ in range(9))
            self.assertEqual(keeps(lifted(kept, saying), placing), keeps(saying, shown_by(kept, placing)))


class Showing(unittest.TestCase):
    def test_by_hand(self):
        self.assertEqual(shown_by((), (3, 1)), ())
        self.assertEqual(shown_by((1,), (3, 1)), (0,))
        self.assertEqual(shown_by((1, 3), (7, -2, 7, 30)), (0, 1))
        self.assertEqual(shown_by((0, 1, 2, 4), (10 ** 30, -5, 10 ** 30, 0, 7)), (2, 0, 2, 1))
        self.assertIs(type(shown_by((0, 1), (5, 5))), tuple)

    def test_the_examples(self):
        self.assertEqual(shown_by(KEPT, (0, 1, 0, 0)), (0, 1, 0))
        self.assertIs(can_fill(B, KEPT, (0, 0, 1)), False)
        self.assertIs(can_fill(B, KEPT, (0, 1, 0)), True)
        self.assertEqual(shown_orders(B, KEPT), slow_shown(B, KEPT))

    def test_nothing_kept(self):
        self.assertEqual(shown_orders(B, ()), [()])
        self.assertIs(can_fill(B, (), ()), True)
        self.assertEqual(shown_orders(NEVER, ()), [])
        self.assertIs(can_fill(NEVER, (), ()), False)
        self.assertEqual(shown_orders((0, ()), ()), [()])
        self.assertEqual(shown_orders((0, (((), None),)), ()), [])

    def test_books_that_cannot_be_kept(self):
        for kept in ((), (0,), (0, 2), (0, 1, 2)):
            self.assertEqual(shown_orders(NEVER, kept), [])
            self.assertFalse(any(can_fill(NEVER, kept, order) for order in orders(len(kept))))

    def test_few_moments(self):
        seen = set()
        for book, kept in CASES:
            shown = shown_orders(book, kept)
            with self.subTest(book=book, kept=kept):
                self.assertEqual(shown, slow_shown(book, kept))
                self.assertIs(type(shown), list)
                self.assertIsNot(shown_orders(book, kept), shown)
                for order in orders(len(kept)):
                    self.assertIs(can_fill(book, kept, order), order in shown)
                    seen.add(order in shown)
        self.assertEqual(seen, {True, False})

    def test_all_kept(self):
        for book, _ in CASES:
            if book[0] <= 4:
                self.assertEqual(shown_orders(book, tuple(range(book[0]))), keepers(book))


class Papers(unittest.TestCase):
    def test_just_one_of_both_for_each_order(self):
        for book, kept in CASES:
            shown = slow_shown(book, kept)
            for order in orders(len(kept)):
                with self.subTest(book=book, kept=kept, order=order):
                    placing, paper = filling(book, kept, order), refusal(book, kept, order)
                    self.assertEqual((placing is None, paper is None), (order not in shown, order in shown))
                    if placing is not None:
                        check_placing(book[0], placing)
                        self.assertTrue(keeps_book(book, placing))
                        self.assertEqual(shown_by(kept, placing), order)
                        self.assertIsNone(judge_filling(book, kept, order, placing))
                    else:
                        self.check_refusal(book, kept, order, paper)
                    self.assertEqual((filling(book, kept, order), refusal(book, kept, order)), (placing, paper))

    def check_refusal(self, book, kept, order, paper):
        self.assertIs(type(paper), tuple)
        saying, derivation = paper
        check_saying(len(kept), saying)
        self.assertFalse(keeps(saying, order))
        ties, head = lifted(kept, saying)
        self.assertIsNone(fault_of(book, given_by(ties), head, derivation))
        self.assertIsNone(judge_refusal(book, kept, order, paper))

    def test_the_examples(self):
        self.assertIsNone(judge_filling(B, KEPT, (0, 1, 0), (0, 1, 0, 0)))
        self.assertIsNone(filling(B, KEPT, (0, 0, 1)))
        self.assertIsNone(refusal(B, KEPT, (0, 1, 0)))
        self.assertIsNone(judge_refusal(B, KEPT, (0, 0, 1), REFUSED))
        self.assertEqual(refusal(B, KEPT, (0, 0, 1))[0], (((0, 1),), (2, 0)))

    def test_nothing_kept(self):
        self.assertIsNone(refusal(B, (), ()))
        self.assertTrue(keeps_book(B, filling(B, (), ())))
        saying, derivation = refusal(NEVER, (), ())
        self.assertEqual((saying, derivation[-1][0]), (((), None), None))
        self.assertIsNone(filling(NEVER, (), ()))
        self.assertEqual(filling((0, ()), (), ()), ())

    def test_great_books(self):
        begun = time.process_time()
        for seed, ties in ((1, 0), (2, 1), (3, 2), (4, 10)):
            (n, sayings), _ = great_case(seed, ties)
            # Only some of the sayings without ties, or nothing could be kept.
            book = (n, tuple(one for one in sayings if one != ((), None))[:50 if ties == 0 else 200])
            self.check_great(book, (0, 7, 20, 39))
        row = row_of_moments(40)
        self.check_great(row, (0, 1, 20, 39))
        self.assertEqual([order for order in shown_orders(row, (0, 1, 20, 39)) if order[0] == order[1]],
                         [(0, 0, 0, 0)])
        self.assertLess(time.process_time() - begun, 60)

    def check_great(self, book, kept):
        shown = shown_orders(book, kept)
        for order in orders(4):
            placing = filling(book, kept, order)
            self.assertEqual(placing is not None, order in shown)
            if placing is None:
                self.check_refusal(book, kept, order, refusal(book, kept, order))
            else:
                self.assertTrue(keeps_book(book, placing))
                self.assertEqual(shown_by(kept, placing), order)
                self.assertTrue(all(0 <= number < 40 for number in placing))

    def test_five_kept_moments_are_too_many(self):
        book, kept, order = (6, (((), None),)), (0, 1, 2, 3, 5), (0, 1, 2, 3, 4)
        for call in (lambda: lifted(kept, ((), None)), lambda: shown_by(kept, (0, 0, 0, 0, 0, 0)),
                     lambda: can_fill(book, kept, order), lambda: shown_orders(book, kept),
                     lambda: filling(book, kept, order), lambda: judge_filling(book, kept, order, None),
                     lambda: refusal(book, kept, order), lambda: judge_refusal(book, kept, order, None),
                     lambda: judge_filling(book, kept, order, (0, 1, 2, 3, 0, 4)),
                     lambda: shown_orders((40, ()), tuple(range(40)))):
            with self.assertRaises(TooGreat):
                call()


class JudgeFilling(unittest.TestCase):
    def check(self, value, fault, order=(0, 1, 0), book=B, kept=KEPT):
        with self.subTest(value=value):
            self.assertEqual(judge_filling(book, kept, order, value), fault)

    def test_right_ones(self):
        self.check((0, 1, 0, 0), None)
        self.check((-7, 10 ** 30, -7, 5), None)
        self.check((0, 1, 0, 1), None)
        self.check((), None, (), (0, ()), ())
        self.check((5, 5, 5, 5), None, (), B, ())

    def test_form(self):
        for value in (*JUNK[:-2], (0, 1, 0), (0, 1, 0, 0, 0), [0, 1, 0, 0], (0, 1, 0, True), (0, None, 0, 0),
                      (0, "1", 0, 0), (0, (1,), 0, 0), ((0, 1, 0, 0),), nested(40, "tuple")):
            self.check(value, ("form",))
        for value in ((0,), None, 0, [], "x"):
            self.check(value, ("form",), (), (0, ()), ())

    def test_broken(self):
        self.check((0, 1, 0, -1), ("broken", 0))
        self.check((0, 1, 0, 2), ("broken", 1))
        self.check((0, 0, 1, 0), ("broken", 2), (0, 0, 1))
        self.check((2, 1, 2, 0), ("broken", 0), (1, 0, 1))
        self.check((), ("broken", 0), (), (0, (((), None),)), ())

    def test_shown(self):
        self.check((0, 1, 2, 0), ("shown",))
        self.check((0, 0, 0, 0), ("shown",))
        self.check((0, 1, 0, 0), ("shown",), (0, 1, 1))
        self.check((0, 1), ("shown",), (1, 0), (2, ()), (0, 1))
        # What the kept moments show counts, not what all show.
        self.check((5, 0, 0, 1), ("shown",), (1, 0), (4, ()), (1, 3))
        self.check((5, 0, 0, 1), None, (0, 1), (4, ()), (1, 3))

    def test_of_two_faults_the_first(self):
        self.check((0, 1, 0, None), ("form",))
        self.check((5, 1, 0, 0), ("broken", 0))
        self.check((1, 0, 1, 2), ("broken", 1))

    def test_all_of_few(self):
        for value in itertools.product(range(3), repeat=4):
            for order in ((0, 1, 0), (0, 0, 1), (0, 1, 2)):
                broken = [k for k, saying in enumerate(B[1]) if not keeps(saying, value)]
                fault = ("broken", broken[0]) if broken else None if shown_by(KEPT, value) == order else ("shown",)
                self.check(value, fault, order)


class JudgeRefusal(unittest.TestCase):
    def check(self, value, fault, order=(0, 0, 1), book=B, kept=KEPT):
        with self.subTest(value=value):
            self.assertEqual(judge_refusal(book, kept, order, value), fault)

    def test_right_ones(self):
        self.check(REFUSED, None)
        self.check(((((0, 1),), (2, 1)),
                    (((0, 1), ("given", 0)), ((1, 0), ("given", 1)), ((2, 0), ("fire", 2, ((0, 1),))),
                     ((2, 1), ("chain", 2, 0)))), None)
        self.check((((), (0, 1)), (((0, 3), ("fire", 0, ())), ((3, 1), ("fire", 1, ())), ((0, 1), ("chain", 0, 1)))),
                   None, (1, 0, 0))
        self.check((((), None), ((None, ("fire", 0, ())),)), None, (), (0, (((), None),)), ())

    def test_form(self):
        for value in (*JUNK[:-2], REFUSED[:1], (*REFUSED, None), list(REFUSED), nested(40, "tuple")):
            self.check(value, ("form",))
        for saying in (None, ((0, 1),), (((0, 1),), (2, 0), None), [((0, 1),), (2, 0)], (((1, 0),), (2, 0)),
                       (((0, 1), (0, 1)), (2, 0)), (((0, 1),), (2, 2)), (((0, 1),), ()), ([(0, 1)], (2, 0)),
                       (((0, True),), (2, 0)), ((), (0, -1)), *JUNK):
            self.check((saying, REFUSED[1]), ("form",))

    def test_moments_of_the_book_in_the_place_of_places(self):
        # With (0, 1, 3) kept, the place of moment 3 is 2.
        kept, order = (0, 1, 3), (1, 0, 0)
        rows = (((0, 3), ("fire", 0, ())),)
        self.check((((), (0, 2)), rows), None, order, B, kept)
        self.check((((), (0, 3)), rows), ("form",), order, B, kept)
        self.check((((), (0, 1)), rows), ("derivation", ("last",)), order, B, kept)
        self.check((((), (0, 2)), (((0, 2), ("fire", 0, ())),)), ("derivation", ("row", 0)), order, B, kept)

    def test_keeps(self):
        self.check(REFUSED, ("keeps",), (0, 0, 0))
        self.check(REFUSED, ("keeps",), (0, 1, 2))
        self.check((((), (0, 1)), None), ("keeps",))
        self.check((((0, 2),), None), ("form",))
        self.check(((((0, 2),), None), ()), ("keeps",))

    def test_the_fault_of_the_derivation(self):
        saying, rows = REFUSED
        for paper in (*JUNK, (), rows[:2] + (((2, 4), ("same",)),), ((0, 1), ("given", 0))):
            self.check((saying, paper), ("derivation", ("form",)))
        self.check((saying, rows[:2]), ("derivation", ("last",)))
        self.check((saying, rows[1:]), ("derivation", ("row", 1)))
        self.check((saying, put(rows, (0, 1, 1), 1)), ("derivation", ("row", 0)))
        self.check((saying, put(rows, (2, 1, 1), 1)), ("derivation", ("row", 2)))
        # The ties give facts in their own sequence, and only those of the saying.
        self.check((((), (2, 0)), rows), ("derivation", ("row", 0)))
        self.check(((((0, 1),), None), rows), ("derivation", ("last",)))

    def test_a_derivation_of_none_is_none_of_the_head(self):
        rows = ((None, ("fire", 0, ())),)
        book = (2, (((), None),))
        self.check((((), None), rows), None, (0, 1), book, (0, 1))
        self.check((((), (1, 0)), rows), ("derivation", ("last",)), (0, 1), book, (0, 1))

    def test_of_two_faults_the_first(self):
        self.check(((((0, 1),), (2, 2)), None), ("form",), (0, 1, 2))
        self.check((REFUSED[0], None), ("keeps",), (0, 1, 2))
        self.check((REFUSED[0], (*REFUSED[1], None)), ("derivation", ("form",)))

    def test_each_part_exchanged(self):
        for path in paths(REFUSED):
            for new in (*JUNK, 0, 1, 2, 3, (0, 1), ((0, 1),), None):
                value = put(REFUSED, path, new)
                fault = judge_refusal(B, KEPT, (0, 0, 1), value)
                self.assertEqual(fault, self.slow_fault(value), value)

    def slow_fault(self, value):
        if type(value) is not tuple or len(value) != 2:
            return ("form",)
        saying, rows = value
        try:
            check_saying(3, saying)
        except ValueError:
            return ("form",)
        if keeps(saying, (0, 0, 1)):
            return ("keeps",)
        ties, head = lifted(KEPT, saying)
        fault = fault_of(B, given_by(ties), head, rows)
        return fault and ("derivation", fault)

    def test_what_was_passed_is_as_it_was(self):
        value = (REFUSED[0], [REFUSED[1], {"a": [1]}])
        for _ in range(2):
            self.check(value, ("derivation", ("form",)))
        self.assertEqual(value, (REFUSED[0], [REFUSED[1], {"a": [1]}]))


if __name__ == "__main__":
    unittest.main()
