import itertools
import random
import time
import unittest

from slow import SIX, keepers, some_saying, with_stretches
from soonerornot.labels import label
from soonerornot.placings import keeps_book
from soonerornot.scenes import label_table, scene_of, told_scene
from soonerornot.settled import can_keep, told_placing
from soonerornot.ways import turned_lot, way_of, way_order

ALL = tuple(range(13))
THREE = ((0, 1), (2, 3), (4, 5))
NEVER = with_stretches(6, THREE, [((), (1, 2)), ((), (3, 4)), ((), (5, 0))])


def some_books(seed, many):
    """Return so many pairs of a book of at most six moments and stretches of it."""
    rng = random.Random(seed)
    found = []
    for _ in range(many):
        count = rng.randint(1, 2)
        n = rng.randint(2 * count, 5)
        moments = rng.sample(range(n), 2 * count)
        stretches = tuple(tuple(moments[k:k + 2]) for k in range(0, 2 * count, 2))
        sayings = [some_saying(rng, n, 2) for _ in range(rng.randint(0, 5))]
        found.append((with_stretches(n, stretches, sayings), stretches))
    return found


BOOKS = [*some_books(81, 120), (SIX, THREE), (NEVER, THREE)]


def slow_labels(book, stretches):
    """Return the table of all labels, straight from all orders that keep the book."""
    kept = keepers(book)
    return tuple(tuple((0,) if s == t else tuple(sorted({way_of(order, s, t) for order in kept})) for t in stretches)
                 for s in stretches)


class LabelTables(unittest.TestCase):
    def check(self, book, stretches, table):
        with self.subTest(book=book, stretches=stretches):
            found = label_table(book, stretches)
            self.assertEqual(found, table)
            self.assertEqual([type(part) for part in (found, *found)], [tuple] * (len(found) + 1))
            self.assertEqual(label_table(book, list(stretches)), found)
            self.assertEqual(label_table(book, stretches), found)

    def test_the_example(self):
        self.check(SIX, THREE, (((0,), (2, 3), (2,)), ((8, 12), (0,), (0, 1, 4, 8, 9, 10, 11, 12)),
                                ((8,), (0, 1, 2, 3, 4, 5, 6, 7), (0,))))
        self.assertEqual(label_table(SIX, THREE), slow_labels(SIX, THREE))
        self.assertEqual(label_table((6, SIX[1][:-1]), THREE)[0][1], ALL)

    def test_one_stretch_alone(self):
        self.check(SIX, ((2, 3),), (((0,),),))
        self.check(NEVER, ((2, 3),), (((0,),),))
        self.check((2, (((), None),)), ((1, 0),), (((0,),),))

    def test_what_cannot_be_kept(self):
        self.assertFalse(can_keep(NEVER))
        self.check(NEVER, THREE, (((0,), (), ()), ((), (0,), ()), ((), (), (0,))))
        self.check((6, (((), None),)), THREE[:2], (((0,), ()), ((), (0,))))

    def test_all_ways(self):
        self.check(with_stretches(4, THREE[:2], []), THREE[:2], (((0,), ALL), (ALL, (0,))))

    def test_few_moments(self):
        for book, stretches in BOOKS:
            self.check(book, stretches, slow_labels(book, stretches))

    def test_each_lot_is_the_label(self):
        for book, stretches in BOOKS[:60]:
            table = label_table(book, stretches)
            for s, t in itertools.permutations(range(len(stretches)), 2):
                self.assertEqual(table[s][t], label(book, stretches[s], stretches[t]))
                self.assertEqual(table[t][s], turned_lot(table[s][t]))

    def test_great_books(self):
        stretches = tuple((k, k + 1) for k in range(0, 30, 2))
        rng = random.Random(82)
        forward = [((), tuple(sorted(rng.sample(range(40), 2)))) for _ in range(170)]
        chain = with_stretches(40, stretches, [((), (k, k + 1)) for k in range(1, 29, 2)])
        begun = time.process_time()
        for book in (chain, with_stretches(40, stretches, forward)):
            table = label_table(book, stretches)
            scene = told_scene(book, stretches)
            for s, t in itertools.permutations(range(15), 2):
                self.assertIn(scene[s][t][0], table[s][t])
        self.assertLess(time.process_time() - begun, 60)
        table = label_table(chain, stretches)
        for s, t in itertools.combinations(range(15), 2):
            self.assertEqual((table[s][t], table[t][s]), ((2, 3), (8, 12)) if t == s + 1 else ((3,), (12,)))


class Scenes(unittest.TestCase):
    def check(self, stretches, placing, scene):
        found = scene_of(stretches, placing)
        self.assertEqual(found, scene)
        self.assertEqual([type(part) for part in (found, *found)], [tuple] * (len(found) + 1))
        self.assertEqual({type(way) for row in found for lot in row for way in lot}, {int})
        self.assertEqual(scene_of(list(stretches), placing), scene)

    def test_the_example(self):
        self.check(((0, 1), (2, 3)), (0, 1, 2, 3), (((0,), (3,)), ((12,), (0,))))

    def test_one_stretch_alone(self):
        self.check(((2, 1),), (5, 10 ** 30, -10 ** 30), (((0,),),))

    def test_stretches_anywhere(self):
        self.check(((3, 0), (1, 4), (5, 2)), (4, 1, 9, -2, 4, 4), (((0,), (5,), (2,)), ((9,), (0,), (2,)),
                                                                 ((8,), (8,), (0,))))

    def test_each_way(self):
        for s, t in itertools.product(((0, 1), (2, 3)), repeat=2):
            if s != t:
                for way in ALL:
                    order = way_order(way)
                    self.check((s, t), order, (((0,), (way_of(order, s, t),)), ((way_of(order, t, s),), (0,))))
        for way in ALL:
            self.assertEqual(scene_of(((0, 1), (2, 3)), way_order(way))[0][1], (way,))


class Told(unittest.TestCase):
    def test_the_placing_is_the_told_one(self):
        self.assertEqual(told_scene((4, ()), ((0, 1), (2, 3))), (((0,), (3,)), ((12,), (0,))))
        for book, stretches in BOOKS:
            scene = told_scene(book, stretches)
            placing = told_placing(book, ())
            if placing is None:
                self.assertIsNone(scene)
            else:
                self.assertTrue(keeps_book(book, placing))
                self.assertEqual(scene, scene_of(stretches, placing))
            self.assertEqual(told_scene(book, list(stretches)), scene)

    def test_there_is_one_exactly_if_the_book_can_be_kept(self):
        self.assertIsNone(told_scene(NEVER, THREE))
        self.assertIsNone(told_scene(NEVER, THREE[:1]))
        seen = [told_scene(book, stretches) is None for book, stretches in BOOKS]
        self.assertEqual(seen, [not keepers(book) for book, _ in BOOKS])
        self.assertEqual(set(seen), {True, False})

    def test_each_way_is_within_its_label(self):
        for book, stretches in BOOKS:
            scene = told_scene(book, stretches)
            if scene is not None:
                table = label_table(book, stretches)
                for s, t in itertools.product(range(len(stretches)), repeat=2):
                    self.assertEqual(len(scene[s][t]), 1)
                    self.assertIn(scene[s][t][0], table[s][t])

    def test_a_way_can_be_exactly_if_some_scene_has_it(self):
        for book, stretches in BOOKS[:40]:
            scenes = [scene_of(stretches, order) for order in keepers(book)]
            for s, t in itertools.permutations(range(len(stretches)), 2):
                self.assertEqual(label_table(book, stretches)[s][t],
                                 tuple(sorted({scene[s][t][0] for scene in scenes})))


if __name__ == "__main__":
    unittest.main()
