import itertools
import random
import unittest

from slow import all_sayings
from soonerornot.books import check_book, check_order, check_saying
from soonerornot.errors import TooGreat
from soonerornot.orders import orders
from soonerornot.ordersets import book_of, hull, judge_witnesses, passes, refusing, said, witnesses
from soonerornot.placings import keeps, keeps_book
from trees import JUNK, paths, put

E = tuple(order for order in orders(3) if order[0] < order[1] or order[0] < order[2])
ASKED = (2, 0, 1)
RIGHT = (((0, 1), (1, 0, 2)), ((0, 2), (1, 2, 0)), ((2, 1), (0, 1, 2)))
FIVE = tuple(random.Random(90).sample(orders(5), 100))


def some_sets(seed, n, many):
    """Return so many sets of orders of n moments, great and small ones."""
    rng = random.Random(seed)
    found = []
    for _ in range(many):
        share = rng.choice((0.1, 0.3, 0.6, 0.9))
        found.append(tuple(order for order in orders(n) if rng.random() < share))
    return found


def subsets(rows):
    return [one for k in range(len(rows) + 1) for one in itertools.combinations(rows, k)]


# All sets of at most two moments, and some of three.
SETS = [(n, members) for n in range(3) for members in subsets(orders(n))]
SETS += [(3, E), (3, ()), (3, tuple(orders(3)))] + [(3, members) for members in some_sets(91, 3, 150)]
SMALLER = SETS[:80]


def slow_refused(n, members, order):
    """Tell whether some saying that is true on a set is broken by an order."""
    return any(not keeps(saying, order) and all(keeps(saying, one) for one in members) for saying in all_sayings(n))


def slow_witnesses(members, order, value):
    """Tell whether a value, rightly formed, is witnesses for an order."""
    n = len(order)
    tied = [(a, b) for a in range(n) for b in range(n) if order[a] == order[b]]
    pairs = [(u, v) for u in range(n) for v in range(n) if order[v] < order[u]]
    return [pair for pair, _ in value] == pairs and pairs != [] and all(
        one in members and one[v] < one[u] and all(one[a] == one[b] for a, b in tied) for (u, v), one in value)


class Refusing(unittest.TestCase):
    def test_the_examples(self):
        lacking = {(0, 0, 0), (1, 0, 0), (1, 0, 1), (1, 1, 0), (2, 0, 1), (2, 1, 0)}
        self.assertEqual(set(orders(3)) - set(E), lacking)
        self.assertEqual(refusing(3, E, (1, 0, 0)), (((1, 2),), (0, 1)))
        self.assertIsNone(refusing(3, E, (2, 0, 1)))

    def test_just_one_of_a_saying_and_witnesses(self):
        seen = set()
        for n, members in SETS:
            for order in orders(n):
                saying = refusing(n, members, order)
                self.assertEqual(saying is not None, slow_refused(n, members, order), (members, order))
                if saying is not None:
                    check_saying(n, saying)
                    self.assertFalse(keeps(saying, order))
                    self.assertTrue(all(keeps(saying, one) for one in members))
                if order in members:
                    self.assertIsNone(saying)
                    continue
                value = witnesses(n, members, order)
                self.assertEqual(value is None, saying is not None)
                if value is not None:
                    self.assertIsNone(judge_witnesses(n, members, order, value))
                    self.assertTrue(slow_witnesses(members, order, value))
                seen.add((order in members, saying is None))
        self.assertEqual(len(seen), 2)

    def test_no_orders_and_no_moments(self):
        self.assertEqual(refusing(0, (), ()), ((), None))
        self.assertIsNone(refusing(0, ((),), ()))
        self.assertEqual(refusing(1, (), (0,)), ((), None))
        self.assertIsNone(witnesses(0, (), ()))
        for n in range(5):
            for order in orders(n):
                saying = refusing(n, (), order)
                self.assertFalse(keeps(saying, order))
                self.assertIsNone(witnesses(n, (), order))

    def test_four_and_five_moments(self):
        rng = random.Random(92)
        for n, members in [(4, one) for one in some_sets(93, 4, 6)] + [(5, tuple(sorted(FIVE)))]:
            for order in rng.sample(orders(n), 40):
                if order in members:
                    continue
                saying, value = refusing(n, members, order), witnesses(n, members, order)
                self.assertEqual(saying is None, value is not None)
                if saying is None:
                    self.assertTrue(slow_witnesses(members, order, value))
                    self.assertIsNone(judge_witnesses(n, members, order, value))
                else:
                    self.assertFalse(keeps(saying, order))
                    self.assertTrue(all(keeps(saying, one) for one in members))

    def test_six_moments_are_too_many(self):
        order = (0, 1, 2, 3, 4, 5)
        for call in (lambda: refusing(6, (), order), lambda: witnesses(6, (), order),
                     lambda: judge_witnesses(6, (), order, ()), lambda: judge_witnesses(6, (), order, None),
                     lambda: refusing(7, (), (0,) * 7)):
            with self.assertRaises(TooGreat):
                call()


class Witnesses(unittest.TestCase):
    def check(self, value, fault, members=E, order=ASKED):
        with self.subTest(value=value, order=order):
            self.assertEqual(judge_witnesses(len(order), members, order, value), fault)

    def test_the_example(self):
        self.check(RIGHT, None)
        value = witnesses(3, E, ASKED)
        self.assertTrue(slow_witnesses(E, ASKED, value))
        self.assertEqual({type(part) for part in (value, *value, *value[0])}, {tuple})
        self.check(value, None)
        self.assertEqual(witnesses(3, E, ASKED), value)
        for order in ((2, 0, 1), (2, 1, 0)):
            self.check(witnesses(3, E, order), None, E, order)
        self.assertIsNone(witnesses(3, E, (1, 0, 0)))

    def test_any_right_ones(self):
        self.check(put(RIGHT, (0, 1), (1, 0, 2)), None)
        for order in E:
            if order[2] > order[1]:
                self.check(put(RIGHT, (2, 1), order), None)

    def test_an_order_with_all_at_once_has_none(self):
        some = ((0, 1), (1, 0, 2))
        self.assertIsNone(witnesses(3, E, (0, 0, 0)))
        self.check((some,), ("pairs",), E, (0, 0, 0))
        self.check((), ("form",), E, (0, 0, 0))
        self.check((), ("form",), (), ())
        self.check((), ("form",), (), (0,))
        self.check((((0, 0), (0,)),), ("form",), (), (0,))

    def test_form(self):
        for value in (*JUNK, list(RIGHT), RIGHT[:2] + ([(2, 1), (0, 1, 2)],), ((0, 1, 2),), RIGHT + ((2, 1),),
                      {(0, 1): (1, 0, 2)}):
            self.check(value, ("form",))
        for path, wrong in (((0, 0), ((0, 0), (1, 3), (-1, 0), (0, True), (False, 1), [0, 1], (0, 1, 2), None, (0,))),
                            ((2, 0), ((2, 2), (3, 1), ("2", 1))),
                            ((1, 1), ((1, 2), (1, 2, 0, 3), (1, 3, 0), (1, True, 0), (-1, 0, 1), (2, 2, 1), (),
                                      [1, 2, 0], None, (10 ** 39, 1, 0)))):
            for new in wrong:
                self.check(put(RIGHT, path, new), ("form",))

    def test_pairs(self):
        for value in (RIGHT[:2], RIGHT[1:], RIGHT[::-1], (RIGHT[0], RIGHT[2], RIGHT[1]), RIGHT + RIGHT[:1],
                      (RIGHT[0], *RIGHT), put(RIGHT, (1, 0), (2, 0)), put(RIGHT, (2, 0), (1, 2))):
            self.check(value, ("pairs",))
        self.check(RIGHT, ("pairs",), E, (2, 1, 0))

    def test_set(self):
        self.check(put(RIGHT, (0, 1), (2, 0, 1)), ("set", 0))
        self.check(put(RIGHT, (1, 1), (1, 1, 0)), ("set", 1))
        self.check(put(RIGHT, (2, 1), (1, 0, 1)), ("set", 2))
        self.check(RIGHT, ("set", 0), ())
        self.check(RIGHT, ("set", 1), tuple(one for one in E if one != (1, 2, 0)))

    def test_ties(self):
        # The asked order has the ties (1, 2) and (0, 3); one moment of each pair is earlier in some order with both.
        members = ((0, 0, 0, 0), (1, 0, 0, 2), (1, 0, 2, 1))
        asked = (1, 0, 0, 1)
        pairs = ((0, 1), (0, 2), (3, 1), (3, 2))
        value = tuple((pair, (0, 0, 0, 0)) for pair in pairs)
        self.check(value, ("earlier", 0), members, asked)
        for k in range(4):
            self.check(put(value, (k, 1), (1, 0, 0, 2)), ("ties", k), members, asked)
            self.check(put(value, (k, 1), (1, 0, 2, 1)), ("ties", k), members, asked)

    def test_earlier(self):
        self.check(put(RIGHT, (0, 1), (0, 1, 2)), ("earlier", 0))
        self.check(put(RIGHT, (1, 1), (0, 1, 0)), ("earlier", 1))
        self.check(put(RIGHT, (2, 1), (0, 1, 1)), ("earlier", 2))
        self.check(put(RIGHT, (2, 1), (1, 2, 0)), ("earlier", 2))

    def test_more_ties_than_asked_are_right(self):
        order = (0, 1, 2, 2)
        pairs = tuple((u, v) for u in range(4) for v in range(4) if order[v] < order[u])
        self.check(tuple((pair, (0, 1, 1, 1) if pair[1] == 0 else (1, 0, 1, 1)) for pair in pairs), None,
                   ((0, 1, 1, 1), (1, 0, 1, 1)), order)

    def test_of_two_faults_the_first(self):
        self.check((*RIGHT[:2], None), ("form",))
        self.check(put(RIGHT[:2], (1, 1), (1, 1)), ("form",))
        self.check(put(RIGHT[:2], (0, 1), (2, 0, 1)), ("pairs",))
        self.check(put(put(RIGHT, (0, 1), (0, 1, 2)), (2, 1), (1, 0, 1)), ("set", 2))
        self.check(put(put(RIGHT, (1, 1), (1, 1, 0)), (2, 1), (1, 0, 1)), ("set", 1))
        members = ((0, 1, 0), (1, 0, 2))
        some = (((0, 1), (0, 1, 0)), ((2, 1), (1, 0, 2)))
        self.check(some, ("ties", 1), members, (1, 0, 1))
        self.check(put(some, (1, 1), (0, 1, 0)), ("earlier", 0), members, (1, 0, 1))
        self.check(put(some, (0, 1), (2, 1, 0)), ("set", 0), members, (1, 0, 1))
        self.check(put(some, (1, 1), (2, 1, 0)), ("set", 1), members, (1, 0, 1))

    def test_each_part_exchanged(self):
        for path in paths(RIGHT):
            for new in (*JUNK, 0, 1, 2, 3, (0, 1), (2, 1), (0, 1, 2), (2, 0, 1)):
                value = put(RIGHT, path, new)
                fault = judge_witnesses(3, E, ASKED, value)
                self.assertEqual(fault == ("form",), not is_formed(value), value)
                if is_formed(value):
                    self.assertEqual(fault is None, slow_witnesses(E, ASKED, value), value)

    def test_what_was_passed_is_as_it_was(self):
        value = (((0, 1), [1, {"a": [0]}]), RIGHT[1])
        for _ in range(2):
            self.check(value, ("form",))
        self.assertEqual(value, (((0, 1), [1, {"a": [0]}]), RIGHT[1]))


def is_formed(value):
    if type(value) is not tuple or not value:
        return False
    for member in value:
        if type(member) is not tuple or len(member) != 2:
            return False
        pair, order = member
        if type(pair) is not tuple or {type(k) for k in pair} != {int} or len(pair) != 2:
            return False
        if not (0 <= min(pair) and max(pair) < 3 and pair[0] != pair[1]):
            return False
        try:
            check_order(3, order)
        except ValueError:
            return False
    return True


class Hulls(unittest.TestCase):
    def test_the_example(self):
        self.assertEqual(hull(3, E), tuple(sorted([*E, (2, 0, 1), (2, 1, 0)])))
        self.assertIs(type(hull(3, E)), tuple)
        self.assertIs(passes(3, E), False)
        self.assertIs(passes(3, hull(3, E)), True)

    def test_those_that_are_not_refused(self):
        for n, members in SMALLER:
            self.assertEqual(hull(n, members), tuple(r for r in orders(n) if not slow_refused(n, members, r)))

    def test_the_hull_of_a_hull_is_itself(self):
        for n, members in SETS:
            wider = hull(n, members)
            self.assertLessEqual(set(members), set(wider))
            self.assertEqual(hull(n, wider), wider)
            self.assertIs(passes(n, wider), True)
            self.assertIs(passes(n, members), members == wider)

    def test_sets_within_others(self):
        rng = random.Random(94)
        for n, members in SETS:
            less = tuple(order for order in members if rng.random() < 0.7)
            self.assertLessEqual(set(hull(n, less)), set(hull(n, members)))

    def test_what_two_have_in_common_passes(self):
        hulls = [hull(3, members) for n, members in SETS if n == 3]
        for one, other in zip(hulls, hulls[1:]):
            self.assertTrue(passes(3, tuple(order for order in one if order in other)))

    def test_no_orders_and_no_moments(self):
        for n in range(5):
            self.assertEqual(hull(n, ()), ())
            self.assertEqual(hull(n, tuple(orders(n))), tuple(orders(n)))
            self.assertTrue(passes(n, ()) and passes(n, tuple(orders(n))))
        self.assertEqual(hull(0, ((),)), ((),))

    def test_each_set_that_a_book_says_passes_and_no_other(self):
        # Of two moments, all books: all lots of sayings.
        told = {said((2, book)) for book in subsets(all_sayings(2))}
        self.assertEqual(told, {members for n, members in SETS if n == 2 and passes(n, members)})


class Books(unittest.TestCase):
    def test_the_book_of_a_set_says_just_its_hull(self):
        for n, members in [*SETS, *((4, one) for one in some_sets(95, 4, 12))]:
            book = book_of(n, members)
            check_book(book)
            self.assertEqual(book[0], n)
            self.assertEqual(len(set(book[1])), len(book[1]))
            kept = tuple(order for order in orders(n) if keeps_book(book, order))
            self.assertEqual(kept, hull(n, members))
            self.assertEqual(said(book), kept)
            self.assertEqual(book_of(n, members), book)

    def test_by_hand(self):
        self.assertEqual(book_of(0, ((),)), (0, ()))
        self.assertEqual(book_of(0, ()), (0, (((), None),)))
        self.assertEqual(book_of(1, ((0,),)), (1, ()))
        self.assertEqual(book_of(2, tuple(orders(2))), (2, ()))
        self.assertEqual(said((2, (((), (0, 1)),))), ((0, 0), (0, 1)))
        self.assertEqual(said((2, (((), (0, 1)), (((0, 1),), None)))), ((0, 1),))
        self.assertEqual(said((0, ())), ((),))
        self.assertEqual(said((0, (((), None),))), ())
        self.assertEqual(said((3, ())), tuple(orders(3)))
        self.assertEqual(said((4, ())), tuple(orders(4)))
        self.assertIs(type(said((2, ()))), tuple)

    def test_five_moments_are_too_many(self):
        order = (0, 1, 2, 3, 4)
        for call in (lambda: hull(5, ()), lambda: passes(5, (order,)), lambda: book_of(5, ()), lambda: said((5, ())),
                     lambda: said((40, (((), None),)))):
            with self.assertRaises(TooGreat):
                call()


class Kept(unittest.TestCase):
    def test_what_was_passed_is_as_it_was_and_the_same_call_tells_the_same(self):
        members = tuple(tuple(order) for order in E)
        for call in (hull, passes, book_of):
            self.assertEqual(call(3, members), call(3, members))
        for order in orders(3):
            self.assertEqual(refusing(3, members, order), refusing(3, members, order))
        self.assertEqual(members, E)


if __name__ == "__main__":
    unittest.main()
