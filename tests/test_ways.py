import itertools
import unittest

from soonerornot.errors import UnknownName
from soonerornot.orders import orders
from soonerornot.placings import order_of
from soonerornot.ways import about_lot, turned, turned_lot, way_named, way_of, way_order, way_words
from trees import JUNK

GREAT = 10 ** 30
WORDS = ["same", "starts", "meets", "before", "started", "ended", "overlaps", "holds", "met", "ends", "within",
         "overlapped", "after"]
# Of two stretches that a placing lets just these orders are there, ascending.
ORDERS = [order for order in orders(4) if order[0] < order[1] and order[2] < order[3]]


class Words(unittest.TestCase):
    def test_all_thirteen(self):
        self.assertEqual(way_words(), WORDS)
        self.assertIs(type(way_words()), list)
        for k, word in enumerate(WORDS):
            self.assertEqual(way_named(word), k)
            self.assertIs(type(way_named(word)), int)

    def test_each_call_gives_a_new_list(self):
        way_words().clear()
        self.assertEqual(way_words(), WORDS)

    def test_words_of_any_kind(self):
        for word in (*JUNK, *range(13), "", "Same", "same ", " same", "if", "=", "<=", "sames", ("same",), ["same"],
                     {"same": 0}, "beforeafter", UnknownName):
            with self.subTest(word=word):
                with self.assertRaises(UnknownName) as caught:
                    way_named(word)
                self.assertIs(caught.exception.name, word)

    def test_what_was_passed_is_as_it_was(self):
        word = ["same", ["x"]]
        with self.assertRaises(UnknownName):
            way_named(word)
        self.assertEqual(word, ["same", ["x"]])


class Orders(unittest.TestCase):
    def test_all_thirteen(self):
        self.assertEqual([way_order(k) for k in range(13)], ORDERS)
        for k in range(13):
            self.assertIs(type(way_order(k)), tuple)

    def test_as_the_words_are_read(self):
        for word, order in (("meets", (0, 1, 1, 2)), ("within", (1, 2, 0, 3)), ("overlaps", (0, 2, 1, 3)),
                            ("ended", (0, 2, 1, 2)), ("after", (2, 3, 0, 1))):
            self.assertEqual(way_order(way_named(word)), order)


class Ways(unittest.TestCase):
    def check(self, placing, s, t, k):
        with self.subTest(placing=placing, s=s, t=t):
            self.assertEqual(way_of(placing, s, t), k)
            self.assertIs(type(way_of(placing, s, t)), int)

    def test_all_thirteen(self):
        for k, order in enumerate(ORDERS):
            self.check(order, (0, 1), (2, 3), k)
            self.check(tuple(7 * member - 9 for member in order), (0, 1), (2, 3), k)
            self.check((order[3], 5, order[1], order[0], -5, order[2]), (3, 2), (5, 0), k)

    def test_great_and_negative_integers(self):
        self.check((-GREAT, GREAT, -GREAT, GREAT - 1), (0, 1), (2, 3), 4)
        self.check((-GREAT, GREAT, GREAT, GREAT + 1), (0, 1), (2, 3), 2)
        self.check((-GREAT, -GREAT + 1, GREAT - 1, GREAT), (0, 1), (2, 3), 3)
        self.check((GREAT - 1, GREAT, -GREAT, -GREAT + 1), (0, 1), (2, 3), 12)
        self.check((-1, 0, -2, -1), (0, 1), (2, 3), 8)

    def test_stretches_that_share_moments(self):
        placing = (3, 8, 8, 9)
        self.check(placing, (0, 1), (1, 3), 2)
        self.check(placing, (1, 3), (0, 1), 8)
        self.check(placing, (0, 1), (0, 1), 0)
        self.check(placing, (0, 1), (0, 3), 1)
        self.check(placing, (0, 3), (0, 1), 4)
        self.check(placing, (0, 3), (1, 3), 5)
        self.check(placing, (2, 3), (0, 3), 9)
        self.check(placing, (0, 2), (0, 1), 0)

    def test_among_forty_moments(self):
        placing = tuple(range(40, 0, -1))
        self.check(placing, (39, 0), (20, 10), 7)
        self.check(placing, (39, 38), (38, 37), 2)


class Turning(unittest.TestCase):
    def test_all_ways(self):
        for k, order in enumerate(ORDERS):
            self.assertEqual(turned(k), ORDERS.index((*order[2:], *order[:2])))
            self.assertEqual(turned(turned(k)), k)
        self.assertEqual([turned(k) for k in range(13)], [0, 4, 8, 12, 1, 9, 11, 10, 2, 5, 7, 6, 3])

    def test_it_is_the_way_of_the_other_to_the_one(self):
        for placing in itertools.product((-3, 0, 5, 8), repeat=4):
            if placing[0] < placing[1] and placing[2] < placing[3]:
                self.assertEqual(turned(way_of(placing, (0, 1), (2, 3))), way_of(placing, (2, 3), (0, 1)))

    def test_lots(self):
        for lot, other in (((), ()), ((0,), (0,)), ((2, 3), (8, 12)), ((1, 8), (2, 4)), ((6, 11), (6, 11)),
                           ((1, 5, 10), (4, 7, 9)), (tuple(range(13)), tuple(range(13)))):
            self.assertEqual(turned_lot(lot), other)
            self.assertEqual(turned_lot(other), lot)
            self.assertIs(type(turned_lot(lot)), tuple)


class About(unittest.TestCase):
    BACK = (0, 9, 8, 12, 5, 4, 11, 7, 2, 1, 10, 6, 3)

    def test_all_ways(self):
        for k, other in enumerate(self.BACK):
            self.assertEqual(about_lot((k,)), (other,))
        # Mirrored, a stretch begins where it ended.
        for k, (b, e, c, f) in enumerate(ORDERS):
            self.assertEqual(about_lot((k,)), (ORDERS.index(order_of((-e, -b, -f, -c))),))

    def test_lots(self):
        for lot, other in (((), ()), ((0, 1, 2), (0, 8, 9)), ((3, 12), (3, 12)), ((1, 4), (5, 9)), ((7, 10), (7, 10)),
                           ((2, 6), (8, 11)), (tuple(range(13)), tuple(range(13)))):
            self.assertEqual(about_lot(lot), other)
            self.assertEqual(about_lot(other), lot)
            self.assertIs(type(about_lot(lot)), tuple)

    def test_all_lots(self):
        for many in range(14):
            for lot in itertools.combinations(range(13), many):
                self.assertEqual(about_lot(lot), tuple(sorted(self.BACK[k] for k in lot)))
                self.assertEqual(turned_lot(about_lot(lot)), about_lot(turned_lot(lot)))


if __name__ == "__main__":
    unittest.main()
