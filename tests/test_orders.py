import itertools
import unittest

from soonerornot.books import check_order
from soonerornot.orders import how_many, left_of, left_order, number_of_order, order_at, orders, spreads
from soonerornot.placings import order_of

NUMBERS = (1, 1, 3, 13, 75, 541, 4683)


class Orders(unittest.TestCase):
    def test_by_hand(self):
        self.assertEqual(orders(0), [()])
        self.assertEqual(orders(1), [(0,)])
        self.assertEqual(orders(2), [(0, 0), (0, 1), (1, 0)])
        self.assertEqual(orders(3), [
            (0, 0, 0), (0, 0, 1), (0, 1, 0), (0, 1, 1), (0, 1, 2), (0, 2, 1), (1, 0, 0), (1, 0, 1), (1, 0, 2),
            (1, 1, 0), (1, 2, 0), (2, 0, 1), (2, 1, 0)])

    def test_all_of_them_ascending(self):
        for n in range(7):
            rows = itertools.product(range(n), repeat=n)
            self.assertEqual(orders(n), [row for row in rows if set(row) == set(range(max(row, default=-1) + 1))])
            self.assertEqual(len(orders(n)), NUMBERS[n])

    def test_each_call_gives_a_new_list(self):
        for n in range(4):
            first = orders(n)
            first.append(9)
            self.assertEqual(orders(n), first[:-1])


class Numbers(unittest.TestCase):
    def test_how_many(self):
        self.assertEqual([how_many(n) for n in range(7)], list(NUMBERS))
        self.assertEqual(how_many(10), 102247563)
        self.assertEqual(how_many(20), 2677687796244384203115)

    def test_how_many_by_another_way(self):
        # All that are first are chosen ahead of the others.
        told = [1]
        for n in range(1, 41):
            row = [1]
            for _ in range(n):
                row = [1, *(one + other for one, other in zip(row, row[1:])), 1]
            told.append(sum(row[k] * told[n - k] for k in range(1, n + 1)))
        self.assertEqual([how_many(n) for n in range(41)], told)

    def test_there_and_back(self):
        self.assertEqual(number_of_order((1, 0)), 2)
        self.assertEqual(number_of_order(()), 0)
        self.assertEqual(order_at(0, 0), ())
        for n in range(6):
            for number, order in enumerate(orders(n)):
                self.assertEqual(number_of_order(order), number)
                self.assertEqual(order_at(n, number), order)
                self.assertIs(type(order_at(n, number)), tuple)

    def test_there_and_back_for_forty(self):
        many = how_many(40)
        self.assertEqual(order_at(40, 0), (0,) * 40)
        self.assertEqual(order_at(40, 1), (0,) * 39 + (1,))
        self.assertEqual(order_at(40, many - 1), tuple(range(39, -1, -1)))
        self.assertEqual(number_of_order((0,) * 40), 0)
        self.assertEqual(number_of_order(tuple(range(39, -1, -1))), many - 1)
        last = -1
        for k in range(1, 30):
            order = order_at(40, many * k // 31 + k)
            check_order(40, order)
            self.assertEqual(number_of_order(order), many * k // 31 + k)
            self.assertGreater(number_of_order(order), last)
            last = number_of_order(order)

    def test_neighbours_of_forty(self):
        order = tuple(k * k % 23 for k in range(40))
        order = order_of(order)
        number = number_of_order(order)
        self.assertLess(order_at(40, number - 1), order)
        self.assertEqual(order_at(40, number), order)
        self.assertGreater(order_at(40, number + 1), order)


class Left(unittest.TestCase):
    def test_left_of(self):
        self.assertEqual(left_of((1, 0, 1, 2), (3, 1)), (2, 0))
        self.assertEqual(left_of((10 ** 30, -5, 7), (2, 0, 1)), (7, 10 ** 30, -5))
        self.assertEqual(left_of((1, 2), ()), ())
        self.assertEqual(left_of((), ()), ())

    def test_left_order(self):
        self.assertEqual(left_order((1, 0, 1, 2), (3, 1)), (1, 0))
        self.assertEqual(left_order((1, 0, 1, 2), (2, 0)), (0, 0))
        self.assertEqual(left_order((1, 0, 1, 2), (3, 2, 1, 0)), (2, 1, 0, 1))
        self.assertEqual(left_order((1, 0), ()), ())
        for order in orders(4):
            for moments in itertools.permutations(range(4), 3):
                self.assertEqual(left_order(order, moments), order_of([order[m] for m in moments]))


class Spreading(unittest.TestCase):
    def test_by_hand(self):
        self.assertEqual(spreads(()), [(0,)])
        self.assertEqual(spreads((0,)), [(0, 0), (0, 1), (1, 0)])
        self.assertEqual(spreads((0, 0)), [(0, 0, 0), (0, 0, 1), (1, 1, 0)])
        self.assertEqual(spreads((1, 0)), [(1, 0, 0), (1, 0, 1), (1, 0, 2), (2, 0, 1), (2, 1, 0)])

    def test_just_those_that_leave_it(self):
        for n in range(5):
            wider = orders(n + 1)
            for order in orders(n):
                told = spreads(order)
                self.assertEqual(told, [row for row in wider if left_order(row, tuple(range(n))) == order])
                self.assertEqual(len(told), 2 * len(set(order)) + 1)
                self.assertIs(type(told), list)

    def test_forty_moments(self):
        order = tuple(range(39, -1, -1))
        told = spreads(order)
        self.assertEqual(len(told), 81)
        self.assertEqual(told, sorted(told))
        for row in told:
            check_order(41, row)
            self.assertEqual(left_order(row, tuple(range(40))), order)

    def test_each_call_gives_a_new_list(self):
        first = spreads((0, 1))
        first.append(9)
        self.assertEqual(spreads((0, 1)), first[:-1])


if __name__ == "__main__":
    unittest.main()
