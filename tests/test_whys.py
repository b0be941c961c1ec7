import itertools
import random
import time
import unittest

from slow import keepers, row_of_moments, some_book, some_saying
from soonerornot.desk import Desk
from soonerornot.errors import TooGreat
from soonerornot.whys import book_of_lot, greatest_lots, judge_greatest, judge_least, least_lots
from trees import JUNK, nested

B = (3, (((), (0, 1)), ((), (1, 2)), ((), (2, 0)), (((0, 1),), None), (((1, 2),), None)))
LEAST = [(0, 1, 2, 3), (0, 1, 2, 4)]
GREATEST = [(0, 1, 2), (0, 1, 3, 4), (0, 2, 3, 4), (1, 2, 3, 4)]


def lots_of(many):
    """Return all lots of a book of so many sayings, ascending."""
    return sorted(lot for k in range(many + 1) for lot in itertools.combinations(range(many), k))


def slow_both(book):
    """Return all least and all greatest lots, straight from all orders."""
    every = lots_of(len(book[1]))
    can = {lot: bool(keepers((book[0], tuple(book[1][k] for k in lot)))) for lot in every}
    never = [set(lot) for lot in every if not can[lot]]
    kept = [set(lot) for lot in every if can[lot]]
    least = [lot for lot in every if not can[lot] and not any(one < set(lot) for one in never)]
    return least, [lot for lot in every if can[lot] and not any(set(lot) < one for one in kept)]


def closely(lots, others, many):
    """Return the ascending list of the lots that meet some others closely."""
    meets = [lot for lot in lots if all(set(lot) & set(one) for one in others)]
    return [lot for lot in meets if not any(set(one) < set(lot) for one in meets)]


def rests(lots, many):
    return sorted(tuple(k for k in range(many) if k not in lot) for lot in lots)


def ring(n, apart):
    """Return a book in which each moment is not later than the next one, round, and some are not at once with it."""
    sayings = [((), (k, (k + 1) % n)) for k in range(n)]
    return (n, (*sayings, *((((k, k + 1),), None) for k in apart)))


def some_books(seed, many):
    """Return so many books of few moments; most of them can't be kept."""
    rng = random.Random(seed)
    found = [some_book(rng, rng.randint(0, 3), 5) for _ in range(many)]
    for _ in range(many):
        n = rng.randint(2, 3)
        sayings = [((), tuple(rng.sample(range(n), 2))) for _ in range(rng.randint(1, 4))]
        sayings.extend((some_saying(rng, n, 2)[0], None) for _ in range(rng.randint(0, 2)))
        rng.shuffle(sayings)
        found.append((n, tuple(sayings)))
    return found


BOOKS = [*some_books(131, 60), B, (0, ()), (0, (((), None),)), (0, (((), None), ((), None))), (3, ()), ring(3, (0,))]


class Lots(unittest.TestCase):
    def check(self, book, least, greatest):
        with self.subTest(book=book):
            self.assertEqual(least_lots(book), least)
            self.assertEqual(greatest_lots(book), greatest)
            for call in (least_lots, greatest_lots):
                found = call(book)
                self.assertIs(type(found), list)
                self.assertIsNot(call(book), found)
                self.assertEqual([type(lot) for lot in found], [tuple] * len(found))

    def test_the_example(self):
        self.check(B, LEAST, GREATEST)

    def test_books_that_can_be_kept(self):
        for book in ((0, ()), (3, ()), (3, B[1][:3]), (12, tuple(((), (k, k + 1)) for k in range(11)))):
            self.check(book, [], [tuple(range(len(book[1])))])

    def test_sayings_that_nothing_keeps(self):
        self.check((0, (((), None),)), [(0,)], [()])
        self.check((2, (((), None), ((), (0, 1)), ((), None))), [(0,), (2,)], [(1,)])

    def test_equal_sayings(self):
        self.check((2, (((), (0, 1)), ((), (1, 0)), ((), (0, 1)), (((0, 1),), None))), [(0, 1, 3), (1, 2, 3)],
                   [(0, 1, 2), (0, 2, 3), (1, 3)])

    def test_few_moments(self):
        for book in BOOKS:
            self.check(book, *slow_both(book))

    def test_each_list_is_told_by_the_other_one(self):
        for book in BOOKS:
            many = len(book[1])
            least, greatest = least_lots(book), greatest_lots(book)
            met = closely(lots_of(many), least, many)
            self.assertEqual(greatest, rests(met, many))
            self.assertEqual(least, closely(lots_of(many), rests(greatest, many), many))

    def test_each_lot_holds_a_least_one_or_lies_within_a_greatest_one(self):
        for book in BOOKS:
            for lot in lots_of(len(book[1])):
                low = any(set(one) <= set(lot) for one in least_lots(book))
                self.assertNotEqual(low, any(set(lot) <= set(one) for one in greatest_lots(book)))

    def test_fourteen_sayings(self):
        begun = time.process_time()
        self.check(ring(11, (0, 3, 7)), [(*range(11), k) for k in (11, 12, 13)],
                   sorted([tuple(range(11)), *(tuple(k for k in range(14) if k != i) for i in range(11))]))
        twice = (7, tuple(((), (k // 2, k // 2 + 1)) for k in range(12)) + (((), (6, 0)), (((0, 1),), None)))
        least = sorted(tuple(2 * k + i for k, i in enumerate(one)) + (12, 13)
                       for one in itertools.product((0, 1), repeat=6))
        greatest = [tuple(k for k in range(14) if k // 2 != i) for i in range(6)]
        greatest += [tuple(range(13)), (*range(12), 13)]
        self.check(twice, least, sorted(greatest))
        self.assertEqual(len(least), 64)
        row = row_of_moments(9)
        self.assertEqual(len(row[1]), 14)
        self.check(row, [], [tuple(range(14))])
        rng = random.Random(132)
        for _ in range(10):
            sayings = [some_saying(rng, 12, 10) for _ in range(14)]
            book = (12, tuple(sayings))
            for lot in least_lots(book):
                self.assertIs(judge_least(book, lot), True)
            for lot in greatest_lots(book):
                self.assertIs(judge_greatest(book, lot), True)
        self.assertLess(time.process_time() - begun, 60)

    def test_fifteen_sayings_are_too_many(self):
        book = (2, (((), (0, 1)),) * 15)
        for call in (lambda: least_lots(book), lambda: greatest_lots(book), lambda: judge_least(book, (0,)),
                     lambda: judge_greatest(book, None), lambda: judge_least(book, [])):
            with self.assertRaises(TooGreat):
                call()
        self.assertEqual(least_lots((2, book[1][:14])), [])
        self.assertEqual(book_of_lot(book, (0, 14)), (2, book[1][:2]))


class BookOf(unittest.TestCase):
    def check(self, book, lot, found):
        self.assertEqual(book_of_lot(book, lot), found)
        self.assertEqual([type(part) for part in (book_of_lot(book, lot), book_of_lot(book, lot)[1])], [tuple] * 2)

    def test_by_hand(self):
        self.check(B, (), (3, ()))
        self.check(B, (0, 1, 2, 3, 4), B)
        self.check(B, (1, 3), (3, (((), (1, 2)), (((0, 1),), None))))
        self.check((0, ()), (), (0, ()))
        sixty = (12, tuple(((), (k % 12, (k + 1) % 12)) for k in range(60)))
        self.check(sixty, (5, 59), (12, (((), (5, 6)), ((), (11, 0)))))


class Judging(unittest.TestCase):
    def test_all_lots(self):
        for book in BOOKS:
            least, greatest = slow_both(book)
            for lot in lots_of(len(book[1])):
                self.assertIs(judge_least(book, lot), lot in least, (book, lot))
                self.assertIs(judge_greatest(book, lot), lot in greatest, (book, lot))

    def test_values_of_any_kind(self):
        for value in (*JUNK, [0, 1, 2, 3], (0, 1, 3, 2), (0, 1, 2, 3, 3), (0, 0, 1, 2, 3), (0, 1, 2, 5), (0, 1, 2, -1),
                      (0, True, 2, 3), (False, 1, 2, 3), (0, 1, 2, "3"), (0, 1, 2, None), ((0, 1, 2, 3),), B, LEAST,
                      (0, 1, 2, 10 ** 39), {0: 0, 1: 1, 2: 2, 3: 3}, nested(40, "list"), Desk(), (0, 1, 2, [3])):
            wrong = value if value != (0, 1, 2, 3) else None
            self.assertIs(judge_least(B, wrong), False, wrong)
            self.assertIs(judge_greatest(B, wrong), False, wrong)
        for value in ([0, 1, 2], (0, 2, 1), (0, 1, 2, 2), (0, 1, 2, 5), (0, True, 2), (2, 1, 0), [0, 1, 3, 4]):
            self.assertIs(judge_greatest(B, value), False)
        self.assertIs(judge_greatest((3, B[1][:3]), (0, 1, 2)), True)
        self.assertIs(judge_greatest((0, ()), ()), True)
        self.assertIs(judge_least((0, ()), ()), False)
        self.assertIs(judge_least((0, (((), None),)), (0,)), True)

    def test_many_members(self):
        for value in (tuple(range(20000)), (0,) * 20000, ((0, 1),) * 20000):
            self.assertIs(judge_least(B, value), False)
            self.assertIs(judge_greatest(B, value), False)

    def test_what_was_passed_is_as_it_was(self):
        value = [0, [1, {"a": [2]}]]
        for call in (judge_least, judge_greatest):
            self.assertIs(call(B, value), False)
            self.assertIs(call(B, (value, 1)), False)
        self.assertEqual(value, [0, [1, {"a": [2]}]])


if __name__ == "__main__":
    unittest.main()
