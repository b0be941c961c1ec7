import itertools
import unittest

from soonerornot.books import check_order, check_saying
from soonerornot.placings import broken, first_broken, is_idle, keeps, keeps_book, order_of, parting

GREAT = 10 ** 30


def all_orders(n):
    """Return all orders of n moments, found among all tuples."""
    rows = itertools.product(range(n), repeat=n)
    return [row for row in rows if set(row) == set(range(max(row, default=-1) + 1))]


def all_sayings(n):
    """Return all sayings about n moments."""
    pairs = list(itertools.combinations(range(n), 2))
    heads = [None, *itertools.permutations(range(n), 2)]
    return [(ties, head) for k in range(len(pairs) + 1) for ties in itertools.combinations(pairs, k) for head in heads]


class Keeping(unittest.TestCase):
    def check(self, saying, placing, kept):
        with self.subTest(saying=saying, placing=placing):
            self.assertIs(keeps(saying, placing), kept)

    def test_without_ties(self):
        self.check(((), None), (), False)
        self.check(((), None), (1, 2), False)
        for placing, kept in (((1, 2), True), ((2, 2), True), ((3, 2), False), ((-2, -1), True), ((-1, -2), False)):
            self.check(((), (0, 1)), placing, kept)
            self.check(((), (1, 0)), (placing[1], placing[0]), kept)

    def test_with_ties(self):
        saying = (((0, 1), (1, 2)), (3, 0))
        for placing, kept in (((5, 5, 5, 6), False), ((5, 5, 5, 5), True), ((5, 5, 5, 4), True), ((5, 6, 6, 9), True),
                              ((5, 5, 6, 9), True), ((5, 6, 5, 9), True)):
            self.check(saying, placing, kept)
        self.check((((0, 1),), None), (4, 4), False)
        self.check((((0, 1),), None), (4, 5), True)
        self.check((((0, 1),), None), (5, 4), True)
        self.check((((0, 1), (2, 3)), None), (4, 4, 1, 1), False)
        self.check((((0, 1), (2, 3)), None), (4, 4, 1, 2), True)
        self.check((((0, 1), (2, 3)), None), (3, 4, 1, 1), True)

    def test_great_and_negative_integers(self):
        self.check(((), (0, 1)), (-GREAT, GREAT), True)
        self.check(((), (1, 0)), (-GREAT, GREAT), False)
        self.check((((0, 1),), None), (GREAT, GREAT), False)
        self.check((((0, 1),), None), (GREAT, GREAT - 1), True)
        self.check(((), (0, 1)), (GREAT, GREAT - 1), False)

    def test_a_placing_of_more_moments(self):
        self.check(((), (0, 1)), (1, 0, 7, 8, 9), False)
        self.check((((0, 1),), None), (1, 0, 7, 8, 9), True)

    def test_an_idle_saying_and_a_head_among_its_ties(self):
        self.check((((0, 1), (1, 2)), (2, 0)), (0, 0, 0), True)
        self.check((((0, 1),), (1, 0)), (0, 0), True)
        self.check((((0, 1),), (1, 0)), (0, 1), True)


class Books(unittest.TestCase):
    BOOK = (3, (((), (0, 1)), (((0, 1),), (2, 0)), ((), (0, 1)), (((0, 2),), None)))

    def check(self, book, placing, numbers):
        with self.subTest(book=book, placing=placing):
            self.assertEqual(broken(book, placing), numbers)
            self.assertIs(type(broken(book, placing)), list)
            self.assertEqual(first_broken(book, placing), numbers[0] if numbers else None)
            self.assertIs(keeps_book(book, placing), not numbers)

    def test_books(self):
        self.check((0, ()), (), [])
        self.check((2, ()), (7, -7), [])
        self.check((0, (((), None),)), (), [0])
        self.check((1, (((), None), ((), None))), (-3,), [0, 1])
        self.check(self.BOOK, (0, 1, 2), [])
        self.check(self.BOOK, (1, 0, 2), [0, 2])
        self.check(self.BOOK, (1, 0, 1), [0, 2, 3])
        self.check(self.BOOK, (0, 0, 1), [1])
        self.check(self.BOOK, (0, 0, 0), [3])
        self.check(self.BOOK, (0, 1, 0), [3])

    def test_great_books(self):
        sayings = tuple((((0, 39),), (k % 40, (k + 1) % 40)) for k in range(2000))
        self.check((40, sayings), tuple(range(40)), [])
        self.check((40, sayings), (0,) * 40, [])
        self.check((40, sayings), (GREAT,) + (0,) * 38 + (GREAT,), list(range(0, 2000, 40)))

    def test_each_call_gives_a_new_list(self):
        first = broken(self.BOOK, (1, 0, 1))
        first.append(9)
        self.assertEqual(broken(self.BOOK, (1, 0, 1)), [0, 2, 3])
        self.assertEqual(self.BOOK, (3, (((), (0, 1)), (((0, 1),), (2, 0)), ((), (0, 1)), (((0, 2),), None))))


class Orders(unittest.TestCase):
    def test_order_of(self):
        for placing, order in (((), ()), ((7,), (0,)), ((-7,), (0,)), ((7, -2, 7, 30), (1, 0, 1, 2)),
                               ((0, 0), (0, 0)), ((GREAT, -GREAT), (1, 0)), ((-1, -2, -3), (2, 1, 0)),
                               ((GREAT, GREAT + 1, GREAT), (0, 1, 0)), (tuple(range(0, 80, 2)), tuple(range(40)))):
            with self.subTest(placing=placing):
                self.assertEqual(order_of(placing), order)
                self.assertIs(type(order_of(placing)), tuple)

    def test_any_two_stand_to_each_other_as_they_did(self):
        for placing in itertools.product((-5, 0, 3, 40), repeat=4):
            order = order_of(placing)
            check_order(4, order)
            self.assertEqual(order_of(order), order)
            for u, v in itertools.product(range(4), repeat=2):
                self.assertEqual(order[u] < order[v], placing[u] < placing[v])


class Idle(unittest.TestCase):
    def check(self, saying, idle):
        with self.subTest(saying=saying):
            self.assertIs(is_idle(saying), idle)

    def test_by_hand(self):
        self.check((((0, 1), (1, 2)), (2, 0)), True)
        self.check((((0, 1), (1, 2)), (0, 2)), True)
        self.check((((0, 1), (1, 2)), (0, 3)), False)
        self.check((((0, 1), (1, 2)), None), False)
        self.check(((), None), False)
        self.check(((), (0, 1)), False)
        self.check((((0, 1),), (1, 0)), True)
        self.check((((0, 1), (2, 3)), (0, 3)), False)

    def test_chains_of_ties_in_any_sequence(self):
        for names in itertools.permutations(range(5)):
            chain = tuple(sorted(tuple(sorted(names[k:k + 2])) for k in range(4)))
            self.check((chain, (names[0], names[4])), True)
            self.check((chain, (names[4], names[0])), True)
            self.check((chain[1:], chain[0]), False)

    def test_long_chains(self):
        chain = tuple((k, k + 1) for k in range(39))
        self.check((chain, (39, 0)), True)
        self.check((chain[:20] + chain[21:], (39, 0)), False)
        self.check((tuple(itertools.combinations(range(40), 2)), (7, 3)), True)
        self.check((tuple(itertools.combinations(range(39), 2)), (39, 3)), False)

    def test_idle_exactly_if_every_placing_keeps_it(self):
        for n in range(5):
            orders = all_orders(n)
            for saying in all_sayings(n):
                self.assertIs(is_idle(saying), all(keeps(saying, order) for order in orders))


class Parting(unittest.TestCase):
    def test_of_one_order_none(self):
        for one, other in (((), ()), ((1,), (-5,)), ((7, -2, 7, 30), (1, 0, 1, 2)), ((GREAT, 0), (1, 0))):
            self.assertIsNone(parting(one, other))

    def test_a_parting_saying_is_kept_by_just_one(self):
        for n in range(4):
            orders = all_orders(n)
            for one, other in itertools.product(orders, repeat=2):
                saying = parting(one, other)
                if one == other:
                    self.assertIsNone(saying)
                else:
                    check_saying(n, saying)
                    self.assertNotEqual(keeps(saying, one), keeps(saying, other))
                    self.assertEqual(parting(one, other), saying)

    def test_great_integers(self):
        one, other = (GREAT, GREAT + 1, -GREAT), (GREAT, GREAT, -GREAT)
        saying = parting(one, other)
        self.assertNotEqual(keeps(saying, one), keeps(saying, other))
        self.assertIsNone(parting(one, (5, 6, 4)))

    def test_sayings_part_just_the_placings_of_unlike_orders(self):
        sayings = all_sayings(3)
        placings = list(itertools.product((-1, 4, 9), repeat=3))
        kept = {placing: [keeps(saying, placing) for saying in sayings] for placing in placings}
        for one, other in itertools.product(placings, repeat=2):
            self.assertEqual(kept[one] == kept[other], order_of(one) == order_of(other))


if __name__ == "__main__":
    unittest.main()
