import itertools
import random
import unittest

from slow import all_sayings
from soonerornot.books import check_saying
from soonerornot.errors import TooGreat
from soonerornot.orders import orders
from soonerornot.ordersets import book_of, hull, said
from soonerornot.placings import is_idle, keeps
from soonerornot.sharp import sharp, tells

E = tuple(order for order in orders(3) if order[0] < order[1] or order[0] < order[2])


def some_sets(seed, n, many):
    rng = random.Random(seed)
    found = []
    for _ in range(many):
        share = rng.choice((0.05, 0.2, 0.5, 0.8, 0.95))
        found.append(tuple(order for order in orders(n) if rng.random() < share))
    return found


def slow_tells(one, other):
    return one != other and set(one[0]) <= set(other[0]) and (one[1] is None or one[1] == other[1])


def slow_sharp(n, members):
    true = [saying for saying in all_sayings(n) if all(keeps(saying, order) for order in members)]
    idle = [saying for saying in true if all(keeps(saying, order) for order in orders(n))]
    return [saying for saying in true
            if saying not in idle and not any(slow_tells(one, saying) for one in true)]


SETS = [(n, members) for n in range(3) for k in range(len(orders(n)) + 1)
        for members in itertools.combinations(orders(n), k)]
SETS += [(3, E), (3, tuple(orders(3))), (3, ())] + [(3, members) for members in some_sets(101, 3, 150)]


class Telling(unittest.TestCase):
    def check(self, one, other, truth):
        with self.subTest(one=one, other=other):
            self.assertIs(tells(one, other), truth)

    def test_by_hand(self):
        self.check(((), (0, 1)), (((0, 2),), (0, 1)), True)
        self.check(((), None), (((0, 2),), (0, 1)), True)
        self.check(((), None), ((), None), False)
        self.check(((), None), ((), (0, 1)), True)
        self.check(((), None), (((0, 1),), None), True)
        self.check(((), (0, 1)), (((0, 2),), (1, 0)), False)
        self.check(((), (0, 1)), (((0, 2),), None), False)
        self.check((((0, 2),), None), ((), None), False)
        self.check((((0, 2),), None), (((0, 2), (1, 2)), (2, 1)), True)
        self.check((((0, 2),), None), (((0, 1), (1, 2)), None), False)
        self.check((((0, 2), (1, 2)), None), (((0, 1), (1, 2)), None), False)
        self.check((((0, 2), (3, 9)), (5, 4)), (((0, 2), (1, 2), (3, 9)), (5, 4)), True)

    def test_the_same_ties_and_unlike_heads(self):
        self.check((((0, 2),), None), (((0, 2),), (0, 1)), True)
        self.check((((0, 2),), (0, 1)), (((0, 2),), None), False)
        self.check((((0, 2),), (0, 1)), (((0, 2),), (1, 0)), False)

    def test_an_equal_one_it_does_not_tell(self):
        for saying in all_sayings(3):
            self.check(saying, (tuple(saying[0]), saying[1]), False)

    def test_all_of_three_moments(self):
        for one, other in itertools.product(all_sayings(3), repeat=2):
            self.check(one, other, slow_tells(one, other))

    def test_what_tells_another_one_is_kept_by_less(self):
        for one, other in itertools.product(all_sayings(3), repeat=2):
            if tells(one, other):
                self.assertTrue(all(keeps(other, order) for order in orders(3) if keeps(one, order)))

    def test_any_moments(self):
        ties = tuple((k, k + 1) for k in range(39))
        self.check((ties[::2], None), (ties, (7, 30)), True)
        self.check((ties, (7, 30)), (ties[1:], (7, 30)), False)


class Sharp(unittest.TestCase):
    def check(self, n, members, sayings):
        with self.subTest(n=n, members=members):
            found = sharp(n, members)
            self.assertEqual(found, sayings)
            self.assertIs(type(found), list)
            for saying in found:
                check_saying(n, saying)
            self.assertIsNot(sharp(n, members), found)

    def test_the_example(self):
        ties = ((0, 1), (0, 2), (1, 2))
        self.check(3, tuple(orders(3)[1:]), [(one, None) for one in itertools.combinations(ties, 2)])
        self.assertEqual(orders(3)[0], (0, 0, 0))

    def test_by_hand(self):
        self.check(0, (), [((), None)])
        self.check(0, ((),), [])
        self.check(1, (), [((), None)])
        self.check(1, ((0,),), [])
        self.check(2, (), [((), None)])
        self.check(2, tuple(orders(2)), [])
        self.check(2, ((0, 0),), [((), (0, 1)), ((), (1, 0))])
        self.check(2, ((0, 1),), [((), (0, 1)), (((0, 1),), None)])
        self.check(2, ((0, 0), (1, 0)), [((), (1, 0))])
        self.check(2, ((0, 1), (1, 0)), [(((0, 1),), None)])
        self.check(4, (), [((), None)])
        self.check(4, tuple(orders(4)), [])

    def test_all_sayings_compared(self):
        for n, members in SETS:
            self.check(n, members, slow_sharp(n, members))

    def test_the_sequence(self):
        for n, members in SETS:
            keys = [(ties, head is not None, head or ()) for ties, head in sharp(n, members)]
            self.assertEqual(keys, sorted(keys))

    def test_the_book_of_all_sharp_ones_says_the_hull(self):
        for n, members in [*SETS, *((4, one) for one in some_sets(102, 4, 10))]:
            book = (n, tuple(sharp(n, members)))
            self.assertEqual(said(book), hull(n, members))
            self.assertEqual(said(book), said(book_of(n, members)))

    def test_four_moments(self):
        for members in some_sets(103, 4, 10):
            found = sharp(4, members)
            true = [saying for saying in all_sayings(4) if all(keeps(saying, order) for order in members)]
            told = [saying for saying in true if any(tells(one, saying) for one in found)]
            for saying in true:
                # Each true saying that is not idle is sharp, or told at once by a sharp one, never both.
                if not is_idle(saying):
                    self.assertNotEqual(saying in found, saying in told)
            self.assertTrue(all(saying in true and not is_idle(saying) for saying in found))

    def test_five_moments_are_too_many(self):
        for members in ((), ((0, 1, 2, 3, 4),)):
            with self.assertRaises(TooGreat):
                sharp(5, members)
        with self.assertRaises(TooGreat):
            sharp(6, ())


if __name__ == "__main__":
    unittest.main()
