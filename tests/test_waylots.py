import itertools
import random
import unittest

from soonerornot.books import check_saying
from soonerornot.orders import orders
from soonerornot.placings import keeps, order_of
from soonerornot.waylots import hull_of_lot, is_clear, is_plain, is_said, refusing_saying, sayings_of_lot
from soonerornot.ways import about_lot, turned_lot, way_of, way_order

ALL = tuple(range(13))
LOTS = [lot for many in range(14) for lot in itertools.combinations(ALL, many)]
PAIRS = list(itertools.combinations(range(4), 2))
# All sayings about four moments, each with the ways that keep it as the bits of a mask.
SAYINGS = {(ties, head): sum(1 << k for k in ALL if keeps((ties, head), way_order(k)))
           for many in range(7) for ties in itertools.combinations(PAIRS, many)
           for head in (None, *itertools.permutations(range(4), 2))}


def mask_of(lot):
    return sum(1 << k for k in lot)


def lots_said(sayings):
    """Return the masks of all lots that books of some sayings say."""
    found = {(1 << 13) - 1}
    for mask in {SAYINGS[saying] for saying in sayings}:
        found |= {mask & one for one in found}
    return found


SAID = lots_said(SAYINGS)
CLEAR = lots_said([saying for saying in SAYINGS if not saying[0] or (len(saying[0]) == 1 and saying[1] is None)])
PLAIN = lots_said([saying for saying in SAYINGS if not saying[0] and saying[1] is not None])


class Said(unittest.TestCase):
    def test_how_many_there_are(self):
        self.assertEqual(len(LOTS), 8192)
        for tell, masks, many in ((is_said, SAID, 868), (is_clear, CLEAR, 188), (is_plain, PLAIN, 30)):
            told = [tell(lot) for lot in LOTS]
            self.assertEqual(sum(told), many)
            self.assertEqual({type(one) for one in told}, {bool})
            self.assertEqual({mask_of(lot) for lot, one in zip(LOTS, told) if one}, masks)

    def test_each_plain_one_is_clear_each_clear_one_is_said(self):
        self.assertLess(PLAIN, CLEAR)
        self.assertLess(CLEAR, SAID)

    def test_the_examples(self):
        for lot, said, clear, plain in (((2, 3), True, True, True), ((3, 12), False, False, False),
                                        ((3,), True, True, False), ((0, 6), True, False, False),
                                        ((), True, True, True), (ALL, True, True, True)):
            self.assertIs(is_said(lot), said)
            self.assertIs(is_clear(lot), clear)
            self.assertIs(is_plain(lot), plain)


class Hulls(unittest.TestCase):
    def test_the_examples(self):
        self.assertEqual(hull_of_lot(()), ())
        self.assertEqual(hull_of_lot(ALL), ALL)
        self.assertEqual(hull_of_lot((2, 3)), (2, 3))
        self.assertEqual(hull_of_lot((3, 12)), (3, 6, 7, 10, 11, 12))
        self.assertIs(type(hull_of_lot((3, 12))), tuple)

    def test_it_is_the_least_said_lot_that_has_all_ways(self):
        rng = random.Random(51)
        for lot in rng.sample(LOTS, 700):
            mask = mask_of(lot)
            least = (1 << 13) - 1
            for one in SAID:
                if one & mask == mask:
                    least &= one
            self.assertIn(least, SAID)
            self.assertEqual(mask_of(hull_of_lot(lot)), least)
            self.assertEqual(hull_of_lot(hull_of_lot(lot)), hull_of_lot(lot))
            self.assertEqual(hull_of_lot(turned_lot(lot)), turned_lot(hull_of_lot(lot)))
            self.assertEqual(hull_of_lot(about_lot(lot)), about_lot(hull_of_lot(lot)))


class Refusing(unittest.TestCase):
    def check(self, lot, k):
        saying = refusing_saying(lot, k)
        refused = any(SAYINGS[one] & mask_of(lot) == mask_of(lot) and not SAYINGS[one] >> k & 1 for one in SAYINGS)
        self.assertEqual(saying is not None, refused, (lot, k))
        self.assertEqual(refusing_saying(lot, k), saying)
        if saying is not None:
            check_saying(4, saying)
            self.assertFalse(keeps(saying, way_order(k)))
            self.assertTrue(all(keeps(saying, way_order(one)) for one in lot))

    def test_many_lots_and_all_ways(self):
        rng = random.Random(52)
        for lot in [(), ALL, (0,), (3, 12), (0, 6), *rng.sample(LOTS, 150)]:
            for k in ALL:
                self.check(lot, k)

    def test_a_way_in_the_lot_has_none(self):
        for k in ALL:
            self.assertIsNone(refusing_saying(ALL, k))
            self.assertIsNone(refusing_saying((k,), k))
            self.assertIsNotNone(refusing_saying((), k))

    def test_a_way_not_in_the_lot_that_is_not_refused(self):
        for k in (6, 7, 10, 11):
            self.assertIsNone(refusing_saying((3, 12), k))
        for k in (0, 1, 2, 4, 5, 8, 9):
            self.assertIsNotNone(refusing_saying((3, 12), k))


class Sayings(unittest.TestCase):
    def check(self, lot, s, t, n=4):
        sayings = sayings_of_lot(lot, s, t)
        self.assertIs(type(sayings), tuple)
        self.assertLessEqual(len(sayings), 60)
        hull = hull_of_lot(lot)
        for saying in sayings:
            check_saying(n, saying)
            ties, head = saying
            self.assertLessEqual({moment for pair in (*ties, head or ()) for moment in (
                pair if type(pair) is tuple else (pair,))}, {*s, *t})
        for order in orders(4):
            placing = [0] * n
            for moment, member in zip(sorted((*s, *t)), order):
                placing[moment] = member
            placing = tuple(placing)
            if placing[s[0]] < placing[s[1]] and placing[t[0]] < placing[t[1]]:
                self.assertEqual(all(keeps(saying, placing) for saying in sayings), way_of(placing, s, t) in hull)
        self.assertEqual(sayings_of_lot(lot, s, t), sayings)

    def test_stretches_in_any_sequence(self):
        for s_begin, s_end, t_begin, t_end in itertools.permutations(range(4)):
            for lot in ((), ALL, (0,), (2, 3), (0, 6), (3, 12), (9, 10), (0, 1, 4), (5, 7)):
                self.check(lot, (s_begin, s_end), (t_begin, t_end))

    def test_ties_are_put_in_sequence(self):
        for s, t in (((3, 2), (1, 0)), ((7, 2), (9, 0)), ((39, 5), (6, 4))):
            for lot in ((0,), (0, 6), (1, 4), (2, 8), (3, 12)):
                self.check(lot, s, t, 40)

    def test_many_lots(self):
        rng = random.Random(53)
        for lot in rng.sample(LOTS, 150):
            self.check(lot, (0, 1), (2, 3))
            self.check(lot, (5, 1), (3, 2), 6)

    def test_nothing_needs_be_said_for_all_ways(self):
        self.assertEqual(sayings_of_lot(ALL, (0, 1), (2, 3)), ())

    def test_great_numbers(self):
        placing = (10 ** 30, -10 ** 30, 0, 10 ** 30 + 1)
        sayings = sayings_of_lot((6,), (1, 0), (2, 3))
        self.assertTrue(all(keeps(saying, placing) for saying in sayings))
        self.assertEqual(order_of(placing), (2, 0, 1, 3))


if __name__ == "__main__":
    unittest.main()
