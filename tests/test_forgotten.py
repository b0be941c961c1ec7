import itertools
import random
import time
import unittest

from slow import all_sayings, great_case, keepers, row_of_moments, some_book, with_stretches
from soonerornot.books import check_book
from soonerornot.errors import TooGreat
from soonerornot.forgetting import shown_by, shown_orders
from soonerornot.forgotten import follows_kept, judge_forgotten, sharp_book
from soonerornot.orders import orders
from soonerornot.ordersets import book_of, hull, passes, said
from soonerornot.placings import is_idle, keeps, keeps_book
from soonerornot.sharp import sharp, tells
from trees import JUNK, nested, paths, put

B = (4, (((), (0, 3)), ((), (3, 1)), (((0, 1),), (2, 0))))
KEPT = (0, 1, 2)
SHARP = (3, (((), (0, 1)), (((0, 1),), (2, 0)), (((0, 1),), (2, 1)), (((0, 2),), (2, 1)), (((1, 2),), (0, 2))))
NEVER = (3, (((), (0, 1)), (((0, 1),), None), ((), (1, 2)), ((), (2, 0))))


def some_books(seed, many):
    """Return so many pairs of a book of at most five moments and at most three moments of it."""
    rng = random.Random(seed)
    found = []
    for _ in range(many):
        n = rng.randint(0, 5)
        kept = tuple(sorted(rng.sample(range(n), rng.randint(0, min(n, 3)))))
        found.append((some_book(rng, n, 6), kept))
    return found


CASES = [*some_books(121, 120), (B, KEPT), (B, ()), (NEVER, ()), (NEVER, (0, 2)), (NEVER, (0, 1, 2)), ((0, ()), ())]


class Following(unittest.TestCase):
    def check(self, book, kept, saying, truth):
        with self.subTest(book=book, kept=kept, saying=saying):
            self.assertIs(follows_kept(book, kept, saying), truth)

    def test_by_hand(self):
        self.check(B, KEPT, ((), (0, 1)), True)
        self.check(B, KEPT, ((), (1, 0)), False)
        self.check(B, KEPT, (((0, 1),), (2, 1)), True)
        self.check(B, KEPT, (((0, 1),), None), False)
        self.check(B, (0, 1, 3), ((), (0, 2)), True)
        self.check(B, (0, 1, 3), ((), (2, 0)), False)
        self.check(B, (), ((), None), False)
        self.check(NEVER, (), ((), None), True)

    def test_all_sayings_of_few_moments(self):
        for book, kept in CASES:
            kept_by = keepers(book)
            for saying in all_sayings(len(kept)):
                self.check(book, kept, saying, all(keeps(saying, shown_by(kept, order)) for order in kept_by))

    def test_just_those_follow_from_a_book_that_forgets_rightly(self):
        for book, kept in CASES:
            other = book_of(len(kept), tuple(shown_orders(book, kept)))
            for saying in all_sayings(len(kept)):
                self.check(book, kept, saying, all(keeps(saying, order) for order in said(other)))


class SharpBooks(unittest.TestCase):
    def check(self, book, kept, found):
        with self.subTest(book=book, kept=kept):
            self.assertEqual(sharp_book(book, kept), found)
            check_book(sharp_book(book, kept))

    def test_the_example(self):
        self.check(B, KEPT, SHARP)

    def test_by_hand(self):
        self.check(B, (), (0, ()))
        self.check(B, (2,), (1, ()))
        self.check(B, (0, 1), (2, (((), (0, 1)),)))
        self.check(B, (0, 3), (2, (((), (0, 1)),)))
        self.check(B, (2, 3), (2, ()))
        self.check((40, (((), (20, 30)), ((), (30, 10)), (((20, 30),), None))), (10, 20),
                   (2, (((), (1, 0)), (((0, 1),), None))))

    def test_a_book_that_cannot_be_kept(self):
        for kept in ((), (0,), (1, 2), (0, 1, 2)):
            self.check(NEVER, kept, (len(kept), (((), None),)))
        self.check((40, (((), None),)), (0, 1, 2, 39), (4, (((), None),)))

    def test_what_holds(self):
        for book, kept in CASES:
            n = len(kept)
            shown = sorted({shown_by(kept, order) for order in keepers(book)})
            found = sharp_book(book, kept)
            self.check(book, kept, (n, tuple(sharp(n, tuple(shown)))))
            self.assertEqual([order for order in orders(n) if keeps_book(found, order)], shown)
            self.assertTrue(passes(n, tuple(shown)))
            self.assertEqual(hull(n, tuple(shown)), tuple(shown))
            # Its sayings are those that follow, are not idle, and are told at once by no other one that follows.
            true = [saying for saying in all_sayings(n) if follows_kept(book, kept, saying)]
            self.assertEqual(list(found[1]), [saying for saying in true if not is_idle(saying) and
                                              not any(tells(one, saying) for one in true)])

    def test_forgotten_one_behind_another(self):
        rng = random.Random(122)
        for book, _ in CASES:
            n = book[0]
            kept = tuple(sorted(rng.sample(range(n), min(n, 4))))
            first = sharp_book(book, kept)
            for k in range(len(kept) + 1):
                for places in itertools.combinations(range(len(kept)), k):
                    left = tuple(kept[place] for place in places)
                    self.assertEqual(shown_orders(first, places), shown_orders(book, left))
                    self.assertEqual(sharp_book(first, places), sharp_book(book, left))

    def test_it_is_told_by_the_shown_orders_whatever_the_book(self):
        for book, kept in CASES[:60]:
            other = book_of(len(kept), tuple(shown_orders(book, kept)))
            self.assertEqual(sharp_book(other, tuple(range(len(kept)))), sharp_book(book, kept))

    def test_great_books(self):
        begun = time.process_time()
        for seed, ties in ((1, 0), (2, 1), (3, 2), (4, 10)):
            (n, sayings), _ = great_case(seed, ties)
            book = (n, tuple(one for one in sayings if one != ((), None))[:50 if ties == 0 else 200])
            found = sharp_book(book, (0, 7, 20, 39))
            self.assertIsNone(judge_forgotten(book, (0, 7, 20, 39), found))
            self.assertEqual(said(found), tuple(shown_orders(book, (0, 7, 20, 39))))
        chain = with_stretches(40, [(k, k + 1) for k in range(39)], [])
        kept = (3, 17, 18, 39)
        before = [one for a, b in itertools.combinations(range(4), 2) for one in (((), (a, b)), (((a, b),), None))]
        self.check(chain, kept, (4, tuple(sorted(before, key=lambda one: (one[0], one[1] or ())))))
        at_once = [(((0, 1),), (u, v)) for u, v in itertools.permutations(range(4), 2) if {u, v} != {0, 1}]
        self.assertTrue(set(at_once) <= set(sharp_book(row_of_moments(40), (0, 1, 20, 39))[1]))
        self.assertLess(time.process_time() - begun, 60)

    def test_five_kept_moments_are_too_many(self):
        book, kept = (6, (((), None),)), (0, 1, 2, 3, 5)
        for call in (lambda: follows_kept(book, kept, ((), None)), lambda: sharp_book(book, kept),
                     lambda: judge_forgotten(book, kept, None), lambda: judge_forgotten(book, kept, (5, ()))):
            with self.assertRaises(TooGreat):
                call()


class Judging(unittest.TestCase):
    def check(self, value, fault, book=B, kept=KEPT):
        with self.subTest(value=value):
            self.assertEqual(judge_forgotten(book, kept, value), fault)

    def test_right_ones(self):
        self.check(SHARP, None)
        self.check((3, SHARP[1][::-1] * 2), None)
        self.check((0, ()), None, B, ())
        self.check((0, (((), None),)), None, NEVER, ())
        self.check((2, (((), (0, 1)), (((0, 1),), None), ((), (1, 0)))), None, NEVER, (0, 1))
        self.check((1, ()), None, B, (3,))
        for book, kept in CASES:
            n = len(kept)
            self.check(book_of(n, tuple(shown_orders(book, kept))), None, book, kept)
            self.check(sharp_book(book, kept), None, book, kept)

    def test_form(self):
        for value in (*JUNK, (2, ()), (4, B[1]), B, (3, [((), (0, 1))]), (True, ()), (3, SHARP[1], ()), [3, SHARP[1]],
                      (3, (((), (0, 3)),)), (3, (((), (0, 0)),)), (3, (((), (0, 1)), None)), nested(40, "tuple")):
            self.check(value, ("form",))
        self.check((1, ()), ("form",), B, ())
        self.check((False, ()), ("form",), B, ())
        self.check((True, ()), ("form",), B, (0,))

    def test_lost(self):
        shown = shown_orders(B, KEPT)
        self.check((3, (((), None),)), ("lost", shown[0]))
        self.check((3, (*SHARP[1], ((), (0, 2)))), ("lost", next(one for one in shown if one[2] < one[0])))
        for order in shown:
            # A book that all but this one keep, or a few more.
            value = book_of(3, tuple(one for one in shown if one != order))
            lost = [one for one in shown if not keeps_book(value, one)]
            self.check(value, ("lost", lost[0]) if lost else None)
        self.check((0, (((), None),)), ("lost", ()), B, ())

    def test_more(self):
        self.check((3, ()), ("more", (0, 0, 1)))
        self.check((3, SHARP[1][1:]), ("more", (1, 0, 2)))
        self.check((0, ()), ("more", ()), NEVER, ())
        self.check((2, ()), ("more", (0, 0)), NEVER, (0, 2))
        shown = shown_orders(B, KEPT)
        for k in range(5):
            value = (3, SHARP[1][:k] + SHARP[1][k + 1:])
            more = [one for one in orders(3) if one not in shown and keeps_book(value, one)]
            self.check(value, ("more", more[0]) if more else None)

    def test_all_shown_orders_are_looked_at_ahead_of_the_others(self):
        # (0, 0, 1) is not shown and keeps it; (0, 1, 0) is shown, stands behind it, and does not.
        value = (3, (((), (1, 2)),))
        self.assertTrue(keeps_book(value, (0, 0, 1)) and (0, 0, 1) not in shown_orders(B, KEPT))
        self.check(value, ("lost", (0, 1, 0)))
        self.check((3, (((), (1, 2)), None)), ("form",))

    def test_many(self):
        rng = random.Random(123)
        for book, kept in CASES:
            n = len(kept)
            value = (n, tuple(rng.sample(all_sayings(n), rng.randint(0, 2)))) if n > 1 else (n, ())
            shown = {shown_by(kept, order) for order in keepers(book)}
            lost = [("lost", one) for one in orders(n) if one in shown and not keeps_book(value, one)]
            more = [("more", one) for one in orders(n) if one not in shown and keeps_book(value, one)]
            self.check(value, [*lost, *more, None][0], book, kept)

    def test_each_part_exchanged(self):
        for path in paths(SHARP):
            for new in (*JUNK, 0, 1, 2, 3, (0, 1), (1, 2), ((0, 1),)):
                value = put(SHARP, path, new)
                try:
                    check_book(value)
                    formed = value[0] == 3
                except ValueError:
                    formed = False
                fault = judge_forgotten(B, KEPT, value)
                self.assertEqual(fault == ("form",), not formed, value)
                if formed:
                    self.assertEqual(fault is None, list(said(value)) == shown_orders(B, KEPT))

    def test_what_was_passed_is_as_it_was(self):
        value = (3, [SHARP[1], {"a": [1]}])
        for _ in range(2):
            self.check(value, ("form",))
        self.assertEqual(value, (3, [SHARP[1], {"a": [1]}]))


if __name__ == "__main__":
    unittest.main()
