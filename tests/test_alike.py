import itertools
import random
import unittest

from slow import FOUR, THREE, great_case, keepers, row_of_moments, some_book, some_saying
from soonerornot.alike import are_alike, first_apart, follows_all
from soonerornot.books import check_placing
from soonerornot.placings import keeps, keeps_book

NEVER = (4, (((), (0, 1)), (((0, 1),), None), ((), (1, 0))))


class Alike(unittest.TestCase):
    def check_follows(self, book, other, followed):
        with self.subTest(book=book, other=other):
            self.assertIs(follows_all(book, other), followed)
            pair = first_apart(book, other)
            self.assertEqual(first_apart(book, other), pair)
            if followed:
                self.assertIsNone(pair)
                return
            self.assertIs(type(pair), tuple)
            k, placing = pair
            check_placing(book[0], placing)
            self.assertTrue(keeps_book(book, placing))
            self.assertFalse(keeps(other[1][k], placing))

    def check(self, book, other, followed, back):
        self.check_follows(book, other, followed)
        self.check_follows(other, book, back)
        self.assertIs(are_alike(book, other), followed and back)
        self.assertIs(are_alike(other, book), followed and back)

    def test_a_saying_more_that_follows(self):
        for saying in (((), (0, 2)), (((0, 2),), None), (((0, 1),), (0, 3)), FOUR[1][1], (((0, 3),), (3, 0))):
            self.check(FOUR, (4, (*FOUR[1], saying)), True, True)
            self.check(FOUR, (4, (saying, *FOUR[1])), True, True)

    def test_a_saying_more_that_does_not_follow(self):
        for saying in (((), (2, 3)), (((0, 1),), None), (((0, 3),), (2, 0))):
            self.check(FOUR, (4, (*FOUR[1], saying)), False, True)

    def test_one_less(self):
        for k in range(4):
            less = (4, FOUR[1][:k] + FOUR[1][k + 1:])
            self.check(FOUR, less, True, False)
            self.assertEqual(first_apart(less, FOUR)[0], k)

    def test_another_sequence(self):
        for sayings in itertools.permutations(FOUR[1]):
            self.check(FOUR, (4, sayings), True, True)

    def test_books_that_can_not_be_kept(self):
        self.check(NEVER, (4, (((), None),)), True, True)
        self.check(NEVER, FOUR, True, False)
        self.check((0, (((), None),)), (0, ()), True, False)
        self.check((0, ()), (0, ()), True, True)
        self.check((0, (((), None),)), (0, (((), None), ((), None))), True, True)

    def test_unlike_ones(self):
        self.check((3, (((), (0, 1)),)), (3, (((), (1, 0)),)), False, False)
        self.check((3, (((), (0, 1)), ((), (1, 2)))), (3, (((), (0, 2)),)), True, False)
        self.check((3, ()), (3, ()), True, True)

    def test_few_moments(self):
        rng = random.Random(31)
        for _ in range(500):
            n = rng.randint(0, 4)
            book = some_book(rng, n, 5)
            other = some_book(rng, n, 3) if rng.random() < 0.5 else (n, (*book[1][1:], some_saying(rng, n, 2)))
            kept, also = set(keepers(book)), set(keepers(other))
            self.check(book, other, kept <= also, also <= kept)

    def test_great_books(self):
        book, _ = great_case(2, 10)
        other = (40, tuple(reversed(book[1])))
        self.check(book, other, True, True)
        self.check(book, (40, (*other[1][1:], ((), (39, 0)))), False, False)
        self.check(row_of_moments(40), (40, ((((0, 1),), (39, 0)), (((0, 1),), (17, 30)))), True, False)

    def test_what_was_passed_is_as_it_was(self):
        self.check(THREE, (3, (((), (0, 1)),)), True, False)
        self.assertEqual(THREE, (3, (((), (0, 1)), (((0, 1),), (2, 0)), (((0, 2),), None))))


if __name__ == "__main__":
    unittest.main()
