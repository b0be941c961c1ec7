import itertools
import random
import unittest

from slow import FOUR, THREE, great_case, keepers, keeps_fact, row_of_moments, slow_laps, some_cases
from soonerornot.books import check_placing
from soonerornot.placings import keeps_book
from soonerornot.rings import against_all, broken_by, judge_ring, ring_of
from trees import JUNK, nested, paths, put

CASES = some_cases(21, 300)


def some_unlike(rng, n, many):
    """Return at most so many pairs of two unlike moments, some perhaps twice."""
    if n < 2:
        return ()
    return tuple(tuple(rng.sample(range(n), 2)) for _ in range(rng.randint(0, many)))


def ring_fault(known, facts, value):
    """Return what judge_ring must tell, the derived facts being known."""
    if type(value) is not tuple or not value:
        return ("form",)
    if not all(type(k) is int and 0 <= k < len(facts) for k in value):
        return ("form",)
    for k in range(len(value)):
        if value[k] in value[:k]:
            return ("again", k)
    for k, number in enumerate(value):
        following = (*value, value[0])[k + 1]
        if (facts[number][0], facts[following][1]) not in known:
            return ("derived", k)
    return None


class Breaking(unittest.TestCase):
    def test_broken_by(self):
        for placing, fact, broken in (((0, 1), (0, 1), False), ((0, 1), (1, 0), True), ((4, 4), (0, 1), False),
                                      ((-10 ** 30, 10 ** 30), (1, 0), True), ((3, 3), (1, 1), False),
                                      ((5, 9, -2), (0, 2), True), ((5, 9, -2), (2, 1), False)):
            self.assertIs(broken_by(placing, fact), broken)


class Against(unittest.TestCase):
    def check(self, book, given, facts, there_is):
        with self.subTest(book=book, given=given, facts=facts):
            placing = against_all(book, given, facts)
            self.assertEqual(against_all(book, given, facts), placing)
            if not there_is:
                self.assertIsNone(placing)
                return
            check_placing(book[0], placing)
            self.assertTrue(keeps_book(book, placing))
            self.assertTrue(all(keeps_fact(fact, placing) for fact in given))
            self.assertTrue(all(broken_by(placing, fact) for fact in facts))

    def test_the_examples(self):
        self.check(FOUR, (), ((3, 0), (1, 3)), True)
        self.check(FOUR, (), ((0, 3), (3, 2)), False)

    def test_by_hand(self):
        self.check(FOUR, (), (), True)
        self.check(FOUR, (), ((0, 1),), False)
        self.check(FOUR, (), ((1, 0),), True)
        self.check(FOUR, (), ((1, 0), (1, 0), (1, 0)), True)
        self.check(FOUR, (), ((2, 3), (3, 2)), False)
        self.check(FOUR, ((1, 0),), ((1, 0),), False)
        self.check(FOUR, ((1, 0),), ((3, 0), (2, 1)), True)
        self.check(FOUR, ((1, 0),), ((3, 0), (1, 3)), False)
        self.check((3, ()), (), ((0, 1), (1, 2)), True)
        self.check((3, ()), (), ((0, 1), (1, 2), (2, 0)), False)

    def test_nothing_if_none_is_derived(self):
        self.check(THREE, ((1, 0), (0, 2)), (), False)
        self.check((2, (((), None),)), (), ((0, 1),), False)
        self.check((0, (((), None),)), (), (), False)

    def test_no_moments(self):
        self.assertEqual(against_all((0, ()), (), ()), ())

    def test_many(self):
        rng = random.Random(22)
        for book, given in CASES:
            for _ in range(4):
                facts = some_unlike(rng, book[0], 4)
                self.check(book, given, facts,
                           any(all(broken_by(order, fact) for fact in facts) for order in keepers(book, given)))


class Rings(unittest.TestCase):
    def check(self, book, given, facts, there_is):
        with self.subTest(book=book, given=given, facts=facts):
            ring = ring_of(book, given, facts)
            self.assertEqual(ring_of(book, given, facts), ring)
            self.assertEqual(ring is not None, there_is)
            if there_is:
                self.assertIsNone(ring_fault(slow_laps(book, given), facts, ring))
                self.assertIsNone(judge_ring(book, given, facts, ring))

    def test_the_examples(self):
        self.check(FOUR, (), ((0, 3), (3, 2)), True)
        self.assertIn(ring_of(FOUR, (), ((0, 3), (3, 2))), ((0, 1), (1, 0)))
        self.check(FOUR, (), ((3, 0), (1, 3)), False)

    def test_a_fact_that_is_a_ring_by_itself(self):
        self.assertEqual(ring_of(FOUR, (), ((0, 1),)), (0,))
        self.assertEqual(ring_of(FOUR, (), ((3, 0), (2, 3), (0, 2))), (2,))
        self.check(FOUR, (), ((0, 3),), False)
        self.check(FOUR, ((1, 0),), ((0, 3),), True)

    def test_no_facts(self):
        self.check(FOUR, (), (), False)
        self.check((0, ()), (), (), False)

    def test_facts_told_twice(self):
        self.check(FOUR, (), ((3, 0), (3, 0)), False)
        self.check(FOUR, (), ((0, 3), (0, 3), (3, 2)), True)
        self.check(FOUR, (), ((0, 1), (0, 1)), True)

    def test_round_many(self):
        facts = tuple((k, (k + 1) % 40) for k in range(40))
        self.check((40, ()), (), facts, True)
        self.assertEqual(sorted(ring_of((40, ()), (), facts)), list(range(40)))
        self.check((40, ()), (), facts[:-1], False)
        self.check(row_of_moments(40), ((0, 1), (1, 0)), facts[:1], True)

    def test_either_a_placing_or_a_ring(self):
        rng = random.Random(23)
        for book, given in CASES:
            if None in slow_laps(book, given):
                continue
            for _ in range(5):
                facts = some_unlike(rng, book[0], 5)
                placing = against_all(book, given, facts)
                self.check(book, given, facts, placing is None)

    def test_great_ones(self):
        rng = random.Random(24)
        for seed in range(4):
            book, given = great_case(seed, 10)
            for many in (1, 5, 40):
                facts = some_unlike(rng, 40, many)
                placing = against_all(book, given[:6], facts)
                self.check(book, given[:6], facts, placing is None)
                if placing is not None:
                    self.assertTrue(keeps_book(book, placing) and all(broken_by(placing, fact) for fact in facts))


class Judging(unittest.TestCase):
    FACTS = ((0, 3), (3, 2), (3, 0), (1, 3), (0, 3), (0, 2))

    def check(self, value, fault, facts=FACTS, book=FOUR, given=()):
        with self.subTest(value=value):
            self.assertEqual(judge_ring(book, given, facts, value), fault)

    def test_right_ones(self):
        for value in ((0, 1), (1, 0), (5,), (4, 1), (1, 4), (0, 2), (3, 1)):
            self.check(value, None)

    def test_form(self):
        for value in (*JUNK, (), [0, 1], (0, -1), (0, True), (False, 1), (0, 6), (0, 10 ** 39), (0, None), (0, (1,)),
                      (0, "1"), (6,), "01", {0: 1}, ((0, 1),)):
            if value != (0, 1, 2, 3):
                self.check(value, ("form",))
        self.check((0,), ("form",), ())
        self.check((0, 0, "x"), ("form",))
        self.check((2, 2, 9), ("form",))
        self.check(nested(40, "tuple"), ("form",))

    def test_again(self):
        self.check((0, 0), ("again", 1))
        self.check((5, 5), ("again", 1))
        self.check((0, 1, 0), ("again", 2))
        self.check((0, 1, 1), ("again", 2))
        self.check((0, 1, 2, 3, 1, 0), ("again", 4))
        # What is not derived stands ahead of it, and is told only behind all that stand again.
        self.check((0, 3, 0), ("again", 2))
        self.check((2, 2, 2), ("again", 1))

    def test_derived(self):
        self.check((0,), ("derived", 0))
        self.check((2, 3), ("derived", 1))
        self.check((3, 0), ("derived", 0))
        self.check((5, 2), ("derived", 1))
        self.check((0, 5), ("derived", 1))
        self.check((0, 1, 5), ("derived", 1))
        self.check((0, 1, 3), ("derived", 2))
        self.check((0, 1, 2, 3), ("derived", 1))
        # The last one goes to the first.
        self.check((1, 0, 2), ("derived", 2))

    def test_by_given_facts(self):
        self.check((0,), None, ((1, 0),), FOUR, ((1, 0),))
        self.check((0,), ("derived", 0), ((1, 0),), FOUR, ())
        self.check((0,), None, ((1, 0),), (2, (((), None),)), ((1, 0),))

    def test_all_short_ones(self):
        rng = random.Random(25)
        for book, given in CASES[:120]:
            facts = some_unlike(rng, book[0], 4)
            known = slow_laps(book, given)
            for many in range(4):
                for value in itertools.product(range(len(facts) + 1), repeat=many):
                    self.check(value, ring_fault(known, facts, value), facts, book, given)

    def test_each_part_exchanged(self):
        for path in paths((0, 1)):
            for new in (*JUNK, 0, 1, 2, 3, 4, 5, 6, (0,)):
                value = put((0, 1), path, new)
                self.check(value, ring_fault(slow_laps(FOUR, ()), self.FACTS, value))


if __name__ == "__main__":
    unittest.main()
