import unittest

from slow import (FOUR, THREE, facts_of, fault_of, great_case, is_derivation, keepers, keeps_fact, row_of_moments,
                  slow_laps, some_cases)
from soonerornot.derivations import closed, derivation, judge_derivation, laps
from trees import JUNK, NO_TUPLES, nested, paths, put

CASES = some_cases(1, 400)
NEVER = (2, (((), (0, 1)), (((0, 1),), None), ((), (1, 0))))


def unlike(laps_found):
    return {fact: lap for fact, lap in laps_found.items() if fact is None or fact[0] != fact[1]}


class Closed(unittest.TestCase):
    def check(self, book, given, facts, can):
        with self.subTest(book=book, given=given):
            found = closed(book, given)
            self.assertEqual(found, (facts, can))
            self.assertIs(type(found), tuple)
            self.assertIs(type(found[0]), tuple)
            self.assertIs(found[1], can)

    def test_the_example_with_each_of_its_given_facts(self):
        self.check(THREE, (), ((0, 1),), True)
        self.check(THREE, ((1, 0),), ((0, 1), (1, 0), (2, 0), (2, 1)), True)
        self.check(THREE, ((0, 2),), ((0, 1), (0, 2)), True)
        self.check(THREE, ((1, 0), (0, 2)), ((0, 1), (0, 2), (1, 0), (1, 2), (2, 0), (2, 1)), False)

    def test_the_example_of_part_4(self):
        self.check(FOUR, (), ((0, 1), (0, 2), (1, 2)), True)
        self.check(FOUR, ((1, 0),), ((0, 1), (0, 2), (0, 3), (1, 0), (1, 2), (1, 3), (2, 3)), True)

    def test_books_of_no_moments(self):
        self.check((0, ()), (), (), True)
        self.check((0, (((), None),)), (), (), False)

    def test_books_that_can_not_be_kept(self):
        self.check(NEVER, (), ((0, 1), (1, 0)), False)
        self.check((3, (((), None), ((), (2, 1)))), ((1, 0),), ((1, 0), (2, 0), (2, 1)), False)
        self.check((1, (((), None),)), ((0, 0),), (), False)

    def test_given_facts_of_one_moment_and_some_twice(self):
        self.check((2, ()), ((0, 0), (1, 1), (1, 0), (1, 0), (0, 0)), ((1, 0),), True)

    def test_rows_in_which_two_at_once_make_the_next_two_so(self):
        for n in (2, 3, 7, 40):
            book = row_of_moments(n)
            every = tuple((u, v) for u in range(n) for v in range(n) if u != v)
            self.check(book, (), (), True)
            self.check(book, ((0, 1),), ((0, 1),), True)
            self.check(book, ((1, 0), (0, 1)), every, True)
        book = (40, (*row_of_moments(40)[1], (((0, 39),), None)))
        self.check(book, ((1, 0), (0, 1)), tuple((u, v) for u in range(40) for v in range(40) if u != v), False)
        self.check(book, ((20, 21), (21, 20)), tuple(
            (u, v) for u in range(20, 40) for v in range(20, 40) if u != v), True)

    def test_against_all_orders(self):
        for book, given in CASES:
            facts, can = closed(book, given)
            kept = keepers(book, given)
            self.assertIs(can, bool(kept))
            for order in kept:
                self.assertTrue(all(keeps_fact(fact, order) for fact in facts))
            if can:
                # What is not derived can be gone against, so the facts are all that hold.
                self.assertEqual(facts, tuple(fact for fact in facts_of(book[0])[:-1] if fact[0] != fact[1] and
                                              all(keeps_fact(fact, order) for order in kept)))

    def test_against_the_laps(self):
        for book, given in CASES:
            found = unlike(slow_laps(book, given))
            self.check(book, given, tuple(sorted(set(found) - {None})), None not in found)

    def test_more_is_given(self):
        for (book, given), (_, more) in zip(CASES, some_cases(2, 400)):
            facts, can = closed(book, given)
            wider, still = closed(book, given + tuple(pair for pair in more if max(pair) < book[0]))
            self.assertLessEqual(set(facts), set(wider))
            self.assertGreaterEqual(can, still)
            if book[1]:
                fewer, better = closed((book[0], book[1][1:]), given)
                self.assertLessEqual(set(fewer), set(facts))
                self.assertGreaterEqual(better, can)
            for fact in facts:
                self.assertEqual(closed(book, (*given, fact)), (facts, can))
            self.assertEqual(closed(book, facts), (facts, can))


class Laps(unittest.TestCase):
    def check(self, book, given, told):
        with self.subTest(book=book, given=given):
            self.assertEqual(laps(book, given), told)
            self.assertIs(type(laps(book, given)), list)

    def test_the_example_with_each_of_its_given_facts(self):
        self.check(THREE, (), [((0, 1), 1)])
        self.check(THREE, ((1, 0),), [((1, 0), 0), ((0, 1), 1), ((2, 0), 2), ((2, 1), 3)])
        self.check(THREE, ((1, 0), (0, 2)), [((0, 2), 0), ((1, 0), 0), ((0, 1), 1), ((1, 2), 1), ((2, 0), 2),
                                             ((2, 1), 3), (None, 3)])

    def test_none_stands_behind_the_pairs_of_its_lap(self):
        self.check((2, (((), None), ((), (1, 0)))), (), [((1, 0), 1), (None, 1)])
        self.check((2, (((), None), ((), (1, 0)))), ((0, 1),), [((0, 1), 0), ((1, 0), 1), (None, 1)])
        self.check((3, (((), None), ((), (1, 0)), ((), (0, 2)))), (),
                   [((0, 2), 1), ((1, 0), 1), (None, 1), ((1, 2), 2)])

    def test_no_moments_and_nothing_derived(self):
        self.check((0, ()), (), [])
        self.check((0, (((), None), ((), None))), (), [(None, 1)])
        self.check((1, ()), ((0, 0),), [])
        self.check((3, ((((0, 1),), None),)), (), [])

    def test_chains_of_one_lap_are_of_two_facts(self):
        given = tuple((k, k + 1) for k in range(39))
        self.check((40, ()), given, sorted(
            [((u, v), (v - u - 1).bit_length()) for u in range(40) for v in range(u + 1, 40)],
            key=lambda row: (row[1], row[0])))

    def test_against_the_slow_laps(self):
        for book, given in CASES:
            self.check(book, given, sorted(unlike(slow_laps(book, given)).items(), key=lambda row: (
                row[1], row[0] is None, row[0])))

    def test_a_long_row(self):
        found = laps(row_of_moments(40), ((0, 1), (1, 0)))
        self.assertEqual(len(found), 40 * 39)
        self.assertEqual(max(lap for fact, lap in found if abs(fact[0] - fact[1]) == 1), 38)


class Derivations(unittest.TestCase):
    def check(self, book, given, fact, derived):
        found = derivation(book, given, fact)
        if not derived:
            self.assertIsNone(found, (book, given, fact))
            return
        self.assertIs(type(found), tuple)
        self.assertTrue(is_derivation(book, given, found), (book, given, fact, found))
        self.assertEqual(found[-1][0], fact)
        self.assertLessEqual(len(found), 5000)
        self.assertIsNone(judge_derivation(book, given, fact, found))
        self.assertEqual(derivation(book, given, fact), found)

    def test_the_example_with_each_of_its_given_facts(self):
        for given in ((), ((1, 0),), ((0, 2),), ((1, 0), (0, 2))):
            facts, can = closed(THREE, given)
            for fact in facts_of(3):
                self.check(THREE, given, fact, not can if fact is None else fact in facts or fact[0] == fact[1])

    def test_facts_of_one_moment(self):
        self.check((1, ()), (), (0, 0), True)
        self.check((3, ()), ((2, 2),), (2, 2), True)
        self.check(NEVER, (), (1, 1), True)

    def test_no_moments(self):
        self.check((0, ()), (), None, False)
        self.check((0, (((), None),)), (), None, True)

    def test_few_moments(self):
        for book, given in CASES:
            found = slow_laps(book, given)
            for fact in facts_of(book[0]):
                self.check(book, given, fact, fact in found)

    def test_great_books(self):
        for seed, ties in ((1, 0), (2, 1), (3, 10), (4, 3)):
            book, given = great_case(seed, ties)
            facts, can = closed(book, given)
            self.check(book, given, None, not can)
            for fact in facts[::97]:
                self.check(book, given, fact, True)
        for n in (39, 40):
            self.check((n, (*row_of_moments(n)[1], (((0, n - 1),), None))), ((0, 1), (1, 0)), None, True)
            self.check(row_of_moments(n), ((0, 1), (1, 0)), (n - 1, 0), True)
            self.check(row_of_moments(n), ((0, 1), (2, 1)), (n - 1, 0), False)
        self.check((40, ()), tuple((k, k + 1) for k in range(39)), (0, 39), True)


RIGHT = (((2, 2), ("same",)), ((0, 1), ("fire", 0, ())), ((1, 0), ("given", 0)), ((2, 0), ("fire", 1, ((1, 2),))),
         ((2, 1), ("chain", 3, 1)), ((0, 2), ("given", 1)), (None, ("fire", 2, ((5, 3),))))
GIVEN = ((1, 0), (0, 2), (2, 2))


class Judging(unittest.TestCase):
    def check(self, value, fault, fact=None, book=THREE, given=GIVEN):
        with self.subTest(value=value, fact=fact):
            self.assertEqual(judge_derivation(book, given, fact, value), fault)

    def swapped(self, k, row):
        return (*RIGHT[:k], row, *RIGHT[k + 1:])

    def test_right_ones(self):
        for k, (fact, _) in enumerate(RIGHT):
            self.check(RIGHT[:k + 1], None, fact)
        self.check((((2, 2), ("given", 2)),), None, (2, 2))
        self.check((((0, 2), ("given", 1)),), None, (0, 2))
        self.check((*RIGHT[:6], RIGHT[5]), None, (0, 2))
        self.check((((1, 1), ("same",)), ((1, 1), ("chain", 0, 0))), None, (1, 1))
        self.check(((None, ("fire", 0, ())), (None, ("fire", 0, ()))), None, None, (0, (((), None),)), ())
        # Two firings of two ties each, the rows of the pairs in any sequence.
        book = (3, ((((0, 1), (1, 2)), (2, 0)),))
        rows = (((2, 1), ("given", 3)), ((1, 2), ("given", 2)), ((1, 0), ("given", 1)), ((0, 1), ("given", 0)))
        fire = ((2, 0), ("fire", 0, ((3, 2), (1, 0))))
        self.check((*rows, fire), None, (2, 0), book, ((0, 1), (1, 0), (1, 2), (2, 1)))

    def test_what_is_returned_is_right(self):
        for book, given in CASES[:150]:
            for fact in facts_of(book[0]):
                found = derivation(book, given, fact)
                if found is not None:
                    self.check(found, None, fact, book, given)
                    self.assertTrue(is_derivation(book, given, found))

    def test_no_tuple_of_rows(self):
        for value in (*JUNK, (), list(RIGHT), [RIGHT], {"a": RIGHT}, "rows"):
            self.check(value, ("form",))
        for row in (*JUNK, (), (None,), (None, ("same",), 0), list(RIGHT[6]), RIGHT):
            for k in range(7):
                self.check(self.swapped(k, row), ("form",))

    def test_facts_that_are_none(self):
        wrong = [part for part in JUNK if part is not None] + [(0,), (0, 1, 2), (3, 0), (0, 3), (-1, 0), (True, 0),
                                                               (0, False), [0, 1], (0, None), ((0,), 1), ("0", 1)]
        for fact in wrong:
            for k in range(7):
                self.check(self.swapped(k, (fact, RIGHT[k][1])), ("form",))

    def test_reasons_in_none_of_the_forms(self):
        wrong = [*JUNK, (), ("same", 0), ("Same",), (["same"],), ("given",), ("given", -1), ("given", True),
                 ("given", None), ("given", 0, 0), ["given", 0], ("same", "given"), ("fact", 0), ("chain", 0),
                 ("chain", 0, -1),
                 ("chain", -1, 0), ("chain", True, 0), ("chain", 0, True), ("chain", 0, 0, 0), ["chain", 0, 0],
                 ("fire", 0), ("fire", 0, None), ("fire", 0, []), ("fire", -1, ()), ("fire", False, ()),
                 ("fire", 0, (), ()), ("fire", 0, 0), ["fire", 0, ()], ("fire", 0, ((0,),)), ("fire", 0, (0,)),
                 ("fire", 0, ((0, 1, 2),)), ("fire", 0, ([0, 1],)), ("fire", 0, ((0, -1),)), ("fire", 0, ((-1, 0),)),
                 ("fire", 0, ((True, 0),)), ("fire", 0, ((0, True),)), ("fire", 0, ((0, 0), None)), ("fire", 0, "ab")]
        for reason in wrong:
            for k in range(7):
                self.check(self.swapped(k, (RIGHT[k][0], reason)), ("form",))

    def test_numbers_may_be_any_and_pairs_as_many_as_there_are(self):
        great = 10 ** 39
        for reason in (("given", 3), ("given", great), ("chain", 0, great), ("chain", great, 1), ("fire", great, ()),
                       ("fire", 3, ()), ("fire", 2, ()), ("fire", 2, ((5, 3), (5, 3))), ("fire", 2, ((great, 3),)),
                       ("fire", 2, ((5, great),))):
            self.check(self.swapped(6, (None, reason)), ("row", 6))

    def test_same(self):
        for fact in (None, (0, 1), (1, 0), (2, 0)):
            self.check(self.swapped(0, (fact, ("same",))), ("row", 0))
        self.check(self.swapped(6, (None, ("same",))), ("row", 6))

    def test_given(self):
        for reason in (("given", 1), ("given", 2), ("given", 3)):
            self.check(self.swapped(2, ((1, 0), reason)), ("row", 2))
        for fact in (None, (0, 1), (1, 1), (2, 0)):
            self.check(self.swapped(2, (fact, ("given", 0))), ("row", 2))
        self.check((((0, 0), ("given", 0)),), ("row", 0), (0, 0), (1, ()), ())

    def test_chain(self):
        for pair in ((1, 3), (3, 3), (1, 1), (0, 1), (3, 0), (2, 1), (4, 1), (3, 4), (3, 5), (5, 1), (7, 1), (3, 7)):
            self.check(self.swapped(4, ((2, 1), ("chain", *pair))), ("row", 4))
        for fact in (None, (2, 0), (0, 1), (1, 2), (2, 2)):
            self.check(self.swapped(4, (fact, ("chain", 3, 1))), ("row", 4))
        self.check((*RIGHT, (None, ("chain", 6, 6))), ("row", 7))
        self.check((*RIGHT, ((0, 1), ("chain", 6, 1))), ("row", 7))
        self.check((*RIGHT, ((0, 1), ("chain", 1, 6))), ("row", 7))

    def test_fire(self):
        for reason in (("fire", 0, ((1, 2),)), ("fire", 2, ((1, 2),)), ("fire", 3, ((1, 2),)), ("fire", 1, ()),
                       ("fire", 1, ((2, 1),)), ("fire", 1, ((1, 2), (1, 2))), ("fire", 1, ((1, 1),)),
                       ("fire", 1, ((0, 2),)), ("fire", 1, ((1, 3),)), ("fire", 1, ((1, 4),)), ("fire", 1, ((7, 2),))):
            self.check(self.swapped(3, ((2, 0), reason)), ("row", 3))
        for fact in (None, (0, 2), (2, 1), (0, 0)):
            self.check(self.swapped(3, (fact, RIGHT[3][1])), ("row", 3))
        for fact in ((0, 1), (2, 0), (0, 0)):
            self.check(self.swapped(6, (fact, RIGHT[6][1])), ("row", 6))

    def test_no_row_names_itself(self):
        self.check((((0, 0), ("chain", 0, 0)),), ("row", 0), (0, 0))
        for pair in ((0, 1), (1, 0), (1, 1)):
            self.check((((0, 0), ("same",)), ((0, 0), ("chain", *pair))), ("row", 1), (0, 0))
        self.check((((2, 2), ("same",)), ((2, 0), ("chain", 0, 1))), ("row", 1), (2, 0))
        self.check((((2, 2), ("same",)), ((0, 2), ("chain", 1, 0))), ("row", 1), (0, 2))
        # What is told by idle sayings would come of itself.
        book = (2, ((((0, 1),), (0, 1)), (((0, 1),), (1, 0))))
        self.check((((1, 0), ("given", 0)), ((0, 1), ("fire", 0, ((1, 0),)))), ("row", 1), (0, 1), book, ((1, 0),))
        self.check((((0, 1), ("given", 0)), ((1, 0), ("fire", 1, ((0, 1),)))), ("row", 1), (1, 0), book, ((0, 1),))
        self.check((((0, 1), ("given", 0)), ((1, 0), ("given", 1)), ((0, 1), ("fire", 0, ((0, 1),)))), None, (0, 1),
                   book, ((0, 1), (1, 0)))

    def test_each_tie_has_its_pair(self):
        book = (3, ((((0, 1), (1, 2)), None),))
        given = ((0, 1), (1, 0), (1, 2), (2, 1))
        rows = tuple((fact, ("given", k)) for k, fact in enumerate(given))
        self.check((*rows, (None, ("fire", 0, ((0, 1), (2, 3))))), None, None, book, given)
        for pairs in (((0, 1), (3, 2)), ((2, 3), (0, 1)), ((1, 0), (2, 3)), ((0, 1),), ((2, 3),), (),
                      ((0, 1), (2, 3), (2, 3)), ((0, 1), (2, 4)), ((0, 4), (2, 3))):
            self.check((*rows, (None, ("fire", 0, pairs))), ("row", 4), None, book, given)

    def test_last(self):
        for fact in facts_of(3)[:-1]:
            self.check(RIGHT, ("last",), fact)
        for k, (own, _) in enumerate(RIGHT):
            for fact in facts_of(3):
                if fact != own:
                    self.check(RIGHT[:k + 1], ("last",), fact)

    def test_of_two_faults_the_first(self):
        bad_row = self.swapped(1, ((0, 1), ("given", 0)))
        self.check(bad_row, ("row", 1), (0, 1))
        self.check((*bad_row, (None, ("given", 9))), ("row", 1), (0, 1))
        self.check((*bad_row, (None, ("given", True))), ("form",), (0, 1))
        self.check((*bad_row, ((0, 3), ("same",))), ("form",), (0, 1))
        self.check((*RIGHT, (None, ("same",), 0)), ("form",), (0, 1))
        self.check((*RIGHT, ((1, 2), ("given", 0))), ("row", 7), (2, 1))
        self.check(self.swapped(0, ((2, 1), ("same",))), ("row", 0))

    def test_each_part_exchanged(self):
        for path in paths(RIGHT):
            for new in (*NO_TUPLES, 0, 1, 2, 3, 99, (), (0,), (0, 0), (2, 0), ("same",), ("given", 1), ((3, 5),)):
                value = put(RIGHT, path, new)
                self.check(value, fault_of(THREE, GIVEN, None, value))

    def test_long_and_deep_values(self):
        rows = tuple(((0, 0), ("chain", k - 1, 0)) if k else ((0, 0), ("same",)) for k in range(5000))
        self.check(rows, None, (0, 0))
        self.check((*rows, ((0, 0), ("chain", 5000, 0))), ("row", 5000), (0, 0))
        for sort in ("tuple", "list", "dict"):
            self.check(nested(40, sort), ("form",))

    def test_what_was_passed_is_as_it_was(self):
        value = ([1, {"a": [2]}], ((0, 1), ("given", [0])))
        self.check(value, ("form",))
        self.check(value, ("form",))
        self.assertEqual(value, ([1, {"a": [2]}], ((0, 1), ("given", [0]))))


class Anew(unittest.TestCase):
    def test_each_call_gives_a_new_list(self):
        first = laps(THREE, ((1, 0),))
        first.clear()
        self.assertEqual(len(laps(THREE, ((1, 0),))), 4)

    def test_the_same_comes_again(self):
        for book, given in CASES[:50]:
            self.assertEqual(closed(book, given), closed((book[0], tuple(list(book[1]))), tuple(list(given))))
            self.assertEqual(laps(book, given), laps(book, given))


if __name__ == "__main__":
    unittest.main()
