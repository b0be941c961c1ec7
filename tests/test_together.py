import itertools
import random
import unittest

from soonerornot.books import check_placing
from soonerornot.orders import left_order, orders
from soonerornot.together import three_placed, threes, together, together_lots
from soonerornot.ways import turned, turned_lot, way_of, way_order

ALL = tuple(range(13))
S, T, Q = (0, 1), (2, 3), (4, 5)


def all_threes():
    """Return the triples of ways that the orders of six moments show, each as often as one shows it."""
    ways = [way_order(k) for k in ALL]
    found = []
    for order in orders(6):
        if order[0] < order[1] and order[2] < order[3] and order[4] < order[5]:
            shown = [left_order(order, (*one, *other)) for one, other in ((S, T), (T, Q), (S, Q))]
            found.append(tuple(ways.index(one) for one in shown))
    return sorted(found)


THREES = all_threes()


def some_lot(rng):
    return tuple(k for k in ALL if rng.random() < rng.choice((0.1, 0.4, 0.8)))


class Threes(unittest.TestCase):
    def test_as_all_orders_of_six_moments_show_them(self):
        self.assertEqual(len(THREES), 409)
        self.assertEqual(threes(), THREES)
        self.assertEqual(len(set(THREES)), 409)
        self.assertIs(type(threes()), list)
        self.assertEqual({type(one) for one in threes()}, {tuple})

    def test_each_call_gives_a_new_list(self):
        threes().clear()
        self.assertEqual(len(threes()), 409)


class Together(unittest.TestCase):
    def test_the_examples(self):
        self.assertEqual(together(3, 3), (3,))
        self.assertEqual(together(3, 12), ALL)
        self.assertEqual(together(6, 6), (2, 3, 6))

    def test_all_ways(self):
        for v, w in itertools.product(ALL, repeat=2):
            self.assertEqual(together(v, w), tuple(x for one, other, x in THREES if (one, other) == (v, w)))
            self.assertIs(type(together(v, w)), tuple)
            self.assertTrue(together(v, w))

    def test_what_holds(self):
        for v, w, x in itertools.product(ALL, repeat=3):
            there = x in together(v, w)
            self.assertEqual(there, v in together(x, turned(w)))
            self.assertEqual(there, w in together(turned(v), x))
        for v, w in itertools.product(ALL, repeat=2):
            self.assertEqual(turned_lot(together(v, w)), together(turned(w), turned(v)))
        for v in ALL:
            self.assertEqual(together(v, 0), (v,))
            self.assertEqual(together(0, v), (v,))

    def test_which_two_are_first_taken_together_does_not_matter(self):
        for v, w, x in itertools.product(ALL, repeat=3):
            self.assertEqual(together_lots(together(v, w), (x,)), together_lots((v,), together(w, x)))


class Lots(unittest.TestCase):
    def test_by_hand(self):
        self.assertEqual(together_lots((), ALL), ())
        self.assertEqual(together_lots(ALL, ()), ())
        self.assertEqual(together_lots(ALL, ALL), ALL)
        self.assertEqual(together_lots((3,), (2, 3)), (3,))
        self.assertEqual(together_lots((3, 6), (3, 6)), (2, 3, 6))
        self.assertEqual(together_lots((0, 2), (8,)), (0, 5, 8, 9))
        self.assertIs(type(together_lots((0, 2), (8,))), tuple)

    def test_many(self):
        rng = random.Random(41)
        for _ in range(300):
            one, other, third = some_lot(rng), some_lot(rng), some_lot(rng)
            both = together_lots(one, other)
            self.assertEqual(both, tuple(sorted({x for v in one for w in other for x in together(v, w)})))
            self.assertEqual(together_lots(one, (0,)), one)
            self.assertEqual(together_lots((0,), one), one)
            self.assertEqual(turned_lot(both), together_lots(turned_lot(other), turned_lot(one)))
            self.assertEqual(together_lots(both, third), together_lots(one, together_lots(other, third)))


class Placed(unittest.TestCase):
    def test_a_placing_for_each_triple_that_has_one(self):
        for v, w, x in THREES:
            placing = three_placed(v, w, x)
            check_placing(6, placing)
            self.assertTrue(placing[0] < placing[1] and placing[2] < placing[3] and placing[4] < placing[5])
            self.assertEqual((way_of(placing, S, T), way_of(placing, T, Q), way_of(placing, S, Q)), (v, w, x))
            self.assertEqual(three_placed(v, w, x), placing)

    def test_none_for_each_other_one(self):
        for triple in sorted(set(itertools.product(ALL, repeat=3)) - set(THREES)):
            self.assertIsNone(three_placed(*triple))


if __name__ == "__main__":
    unittest.main()
