import itertools
import random
import time
import unittest

from slow import fault_of, keepers, row_of_moments, some_book, some_saying
from soonerornot.alike import are_alike
from soonerornot.placings import keeps, keeps_book
from soonerornot.settled import given_by
from soonerornot.sides import turned_book
from soonerornot.thinning import difference, judge_difference, judge_likeness, judge_thin, likeness, spare, thin_lot
from soonerornot.whys import book_of_lot
from test_whys import B, lots_of, some_books
from trees import JUNK, nested, paths, put

BOOKS = [*some_books(151, 60), B, (0, ()), (0, (((), None),)), (0, (((), None), ((), None))), (3, ())]
# Two books that are alike in other sayings, and one that is not.
ONE = (3, (((), (0, 1)), ((), (1, 2)), (((0, 2),), None)))
OTHER = (3, (((), (0, 2)), (((0, 2),), None), ((), (1, 2)), (((0, 1), (1, 2)), None), ((), (0, 1)), ((), (0, 2))))
LESS = (3, (((), (0, 1)), ((), (1, 2))))
NEVER = (3, (((), (2, 1)), ((), None)))


def some_pairs(seed, many):
    """Return so many pairs of books of as many moments, some of them alike."""
    rng = random.Random(seed)
    found = []
    for _ in range(many):
        n = rng.randint(0, 3)
        one, other = some_book(rng, n, 4), some_book(rng, n, 4)
        found.append((one, other))
        # What follows from a book may be put behind it.
        more = [some_saying(rng, n, 2) for _ in range(6)]
        true = tuple(saying for saying in more if all(keeps(saying, order) for order in keepers(one)))
        found.append((one, (n, one[1] + true)))
        found.append(((n, true + one[1]), one))
    return found


PAIRS = [*some_pairs(152, 60), (ONE, OTHER), (ONE, LESS), (LESS, ONE), (ONE, NEVER), (NEVER, ONE), (NEVER, B), (B, B),
         ((0, ()), (0, ())), ((0, ()), (0, (((), None),))), ((0, (((), None),)), (0, ()))]


def slow_spare(book):
    """Return the numbers of the spare sayings, straight from all orders."""
    found = []
    for k, saying in enumerate(book[1]):
        others = (book[0], book[1][:k] + book[1][k + 1:])
        if all(keeps(saying, order) for order in keepers(others)):
            found.append(k)
    return found


def slow_is_thin(book, lot):
    less = book_of_lot(book, lot)
    return keepers(less) == keepers(book) and slow_spare(less) == []


class Spare(unittest.TestCase):
    def check(self, book, found):
        with self.subTest(book=book):
            self.assertEqual(spare(book), found)
            self.assertIs(type(spare(book)), list)

    def test_by_hand(self):
        self.check((0, ()), [])
        self.check(ONE, [])
        self.check(OTHER, slow_spare(OTHER))
        self.check(OTHER, [0, 1, 3, 5])
        self.check((2, (((), (0, 1)), (((0, 1),), (0, 1)))), [1])
        self.check((3, (((), (0, 1)), ((), (1, 2)), ((), (0, 2)))), [2])

    def test_equal_sayings_are_both_spare(self):
        self.check((2, (((), (0, 1)), ((), (0, 1)))), [0, 1])
        self.check((0, (((), None), ((), None))), [0, 1])
        self.check((3, (((), (0, 1)), ((), (1, 2)), ((), (0, 1)))), [0, 2])

    def test_books_that_cannot_be_kept(self):
        self.check(B, [3, 4])
        self.check(NEVER, [0])
        self.check((0, (((), None),)), [])

    def test_few_moments(self):
        for book in BOOKS:
            self.check(book, slow_spare(book))


class Thin(unittest.TestCase):
    def check(self, book):
        with self.subTest(book=book):
            lot = thin_lot(book)
            self.assertIs(type(lot), tuple)
            self.assertIs(judge_thin(book, lot), True)
            self.assertTrue(slow_is_thin(book, lot))
            self.assertEqual(thin_lot(book), lot)

    def test_the_example(self):
        self.check(B)
        self.assertIs(judge_thin(B, (0, 1, 2, 3)), True)
        self.assertIs(judge_thin(B, (0, 1, 2, 4)), True)
        self.assertIs(judge_thin(B, (0, 1, 2, 3, 4)), False)
        self.assertIs(judge_thin(B, (0, 1, 2)), False)

    def test_by_hand(self):
        self.assertEqual(thin_lot((0, ())), ())
        self.assertEqual(thin_lot(ONE), (0, 1, 2))
        self.assertEqual(thin_lot((2, ((((0, 1),), (0, 1)),))), ())
        self.assertEqual(thin_lot(NEVER), (1,))

    def test_few_moments(self):
        for book in BOOKS:
            self.check(book)

    def test_all_lots_judged(self):
        for book in BOOKS:
            for lot in lots_of(len(book[1])):
                self.assertIs(judge_thin(book, lot), slow_is_thin(book, lot))

    def test_values_of_any_kind(self):
        for value in (*JUNK[:-2], [0, 1, 2, 3], (0, 1, 3, 2), (0, 1, 2, 3, 3), (0, 1, 2, 5), (0, True, 2, 3),
                      (0, 1, 2, None), (0, 1, 2, "3"), ((0, 1, 2, 3),), (-1, 0, 1, 2, 3), (0, 1, 2, 10 ** 39),
                      nested(40, "tuple"), tuple(range(20000)), {0: 1}):
            self.assertIs(judge_thin(B, value), False, value)

    def test_great_books(self):
        rng = random.Random(153)
        begun = time.process_time()
        chain = tuple(((), (k, k + 1)) for k in range(11))
        for sayings in (chain * 5, tuple(some_saying(rng, 12, 10) for _ in range(60)),
                        tuple(((), tuple(rng.sample(range(12), 2))) for _ in range(60)), row_of_moments(12)[1] * 3):
            book = (12, sayings)
            self.assertIs(judge_thin(book, thin_lot(book)), True)
            self.assertLessEqual({k for k, one in enumerate(sayings) if sayings.count(one) > 1}, set(spare(book)))
        self.assertEqual(len(thin_lot((12, chain * 5))), 11)
        self.assertEqual(spare((12, chain * 5)), list(range(55)))
        self.assertLess(time.process_time() - begun, 60)


class Differences(unittest.TestCase):
    def right(self, one, other, value):
        """Tell whether a value, rightly formed, is a difference."""
        i, k, placing = value
        broken, kept = ((one, other), (other, one))[i]
        return not keeps(broken[1][k], placing) and keeps_book(kept, placing)

    def test_just_one_of_both(self):
        seen = set()
        for one, other in PAIRS:
            value, paper = difference(one, other), likeness(one, other)
            same = keepers(one) == keepers(other)
            self.assertEqual((value is None, paper is None), (same, not same))
            self.assertIs(are_alike(one, other), same)
            if value is not None:
                self.assertIs(type(value), tuple)
                self.assertTrue(self.right(one, other, value))
                self.assertIs(judge_difference(one, other, value), True)
                # Seen from the other side it is one of the other sort.
                self.assertIs(judge_difference(other, one, (1 - value[0], *value[1:])), True)
                seen.add(value[0])
            else:
                self.assertIs(judge_likeness(one, other, paper), True)
            self.assertEqual((difference(one, other), likeness(one, other)), (value, paper))
        self.assertEqual(seen, {0, 1})

    def test_by_hand(self):
        self.assertIsNone(difference(ONE, OTHER))
        self.assertEqual(difference(ONE, LESS)[:2], (0, 2))
        self.assertEqual(difference(LESS, ONE)[:2], (1, 2))
        self.assertIn(difference(ONE, NEVER)[:2], ((1, 0), (1, 1)))
        self.assertEqual(difference((0, ()), (0, (((), None),))), (1, 0, ()))
        self.assertEqual(difference((0, (((), None),)), (0, ())), (0, 0, ()))

    def test_both_sorts_judged(self):
        self.assertIs(judge_difference(ONE, LESS, (0, 2, (4, 4, 4))), True)
        self.assertIs(judge_difference(ONE, LESS, (1, 2, (4, 4, 4))), False)
        self.assertIs(judge_difference(LESS, ONE, (1, 2, (4, 4, 4))), True)
        self.assertIs(judge_difference(LESS, ONE, (0, 2, (4, 4, 4))), False)
        # It keeps the saying, or breaks the other book.
        self.assertIs(judge_difference(ONE, LESS, (0, 2, (0, 1, 1))), False)
        self.assertIs(judge_difference(ONE, LESS, (0, 1, (4, 4, 4))), False)
        self.assertIs(judge_difference(ONE, LESS, (0, 2, (1, 0, 1))), False)
        self.assertIs(judge_difference(ONE, LESS, (0, 0, (1, 0, 1))), False)
        self.assertIs(judge_difference(ONE, turned_book(ONE), (0, 0, (2, 1, 0))), True)
        self.assertIs(judge_difference(ONE, turned_book(ONE), (1, 0, (0, 1, 2))), True)
        self.assertIs(judge_difference(ONE, turned_book(ONE), (1, 0, (2, 1, 0))), False)

    def test_few_moments_judged(self):
        for one, other in PAIRS[:60]:
            for order in keepers((one[0], ())):
                for i, book in enumerate((one, other)):
                    for k in range(len(book[1])):
                        value = (i, k, order)
                        self.assertIs(judge_difference(one, other, value), self.right(one, other, value))

    def test_values_of_any_kind(self):
        right = (0, 2, (4, 4, 4))
        for value in (*JUNK, list(right), right[:2], (*right, 0), (0, 3, (4, 4, 4)), (2, 2, (4, 4, 4)),
                      (False, 2, (4, 4, 4)), (-1, 2, (4, 4, 4)), (0, -1, (4, 4, 4)), (0, 10 ** 39, (4, 4, 4)),
                      (0, "2", (4, 4, 4)), (0, 2, [4, 4, 4]), (0, 2, (4, 4)), (0, 2, (4, 4, 4, 4)),
                      (0, 2, (4, 4, True)),
                      (0, 2, (4, 4, None)), (None, 2, (4, 4, 4)), (0, None, (4, 4, 4)), (0, 2, None), (right,)):
            self.assertIs(judge_difference(ONE, LESS, value), False, value)
        for i in (True, 2, -1, 3):
            self.assertIs(judge_difference(LESS, ONE, (i, 2, (4, 4, 4))), False)
        self.assertIs(judge_difference(LESS, ONE, (1, 2, (4, 4, 4))), True)
        self.assertIs(judge_difference(ONE, LESS, right), True)


class Likenesses(unittest.TestCase):
    def right(self, one, other, value):
        """Tell whether a value is a likeness, straight from its words."""
        if type(value) is not tuple or len(value) != 2 or {type(part) for part in value} != {tuple}:
            return False
        for book, source, rows in ((one, other, value[0]), (other, one, value[1])):
            if len(rows) != len(book[1]):
                return False
            for (ties, head), row in zip(book[1], rows):
                if all(fault_of(source, given_by(ties), fact, row) for fact in (head, None)):
                    return False
        return True

    def test_many(self):
        many = 0
        for one, other in PAIRS:
            value = likeness(one, other)
            if value is not None:
                many += 1
                self.assertEqual([type(part) for part in (value, *value)], [tuple] * 3)
                self.assertTrue(self.right(one, other, value))
                self.assertIs(judge_likeness(one, other, value), True)
                self.assertIs(judge_likeness(other, one, value[::-1]), True)
        self.assertGreater(many, 100)

    def test_by_hand(self):
        self.assertEqual(likeness((0, ()), (0, ())), ((), ()))
        self.assertIs(judge_likeness((0, ()), (0, ()), ((), ())), True)
        self.assertIsNone(likeness(ONE, LESS))
        self.assertIs(judge_likeness(ONE, LESS, likeness(ONE, OTHER)), False)
        rows = tuple((saying[1], ("fire", k, tuple((2 * i, 2 * i + 1) for i in range(len(saying[0])))))
                     for k, saying in enumerate(ONE[1]))
        own = ((rows[0],), (rows[1],), (((0, 2), ("given", 0)), ((2, 0), ("given", 1)), rows[2]))
        self.assertIs(judge_likeness(ONE, ONE, (own, own)), True)
        self.assertIs(judge_likeness(ONE, ONE, (own, own[::-1])), False)

    def test_derivations_of_a_head_and_of_none(self):
        one, other = (2, (((), None),)), (2, (((), None), ((), (0, 1))))
        none = ((None, ("fire", 0, ())),)
        head = (((0, 1), ("fire", 1, ())),)
        self.assertIs(judge_likeness(one, other, ((none,), (none, none))), True)
        self.assertIs(judge_likeness(other, one, ((none, none), (none,))), True)
        self.assertIs(judge_likeness(other, other, ((none, head), (none, head))), True)
        self.assertIs(judge_likeness(other, other, ((none, head), (head, none))), False)
        self.assertIs(judge_likeness(other, other, ((head, head), (none, head))), False)
        self.assertIs(judge_likeness(one, other, ((none,), (none, head))), False)

    def test_each_part_exchanged(self):
        right = likeness(ONE, OTHER)
        for path in paths(right):
            for new in (*JUNK, 0, 1, 2, (0, 1), (None, ("fire", 2, ((0, 1),))), ("same",)):
                value = put(right, path, new)
                self.assertIs(judge_likeness(ONE, OTHER, value), self.right(ONE, OTHER, value), value)

    def test_values_of_any_kind(self):
        right = likeness(ONE, OTHER)
        for value in (*JUNK, list(right), right[:1], (*right, ()), right[::-1], (right[0][:2], right[1]),
                      (right[0], (*right[1], right[1][0])), (list(right[0]), right[1]), (right[0], None)):
            self.assertIs(judge_likeness(ONE, OTHER, value), False, value)

    def test_great_books(self):
        chain = tuple(((), (k, k + 1)) for k in range(11))
        jumps = tuple(((), (a, b)) for a, b in itertools.combinations(range(12), 2))
        one, other = (12, chain), (12, chain + jumps[:49])
        self.assertIs(judge_likeness(one, other, likeness(one, other)), True)
        self.assertIsNone(difference(one, other))


if __name__ == "__main__":
    unittest.main()
