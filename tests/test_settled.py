import random
import unittest

from slow import (FOUR, THREE, facts_of, fault_of, great_case, keepers, keeps_fact, row_of_moments, slow_laps,
                  some_cases, some_saying)
from soonerornot.books import check_placing
from soonerornot.derivations import closed, judge_derivation
from soonerornot.placings import keeps, keeps_book
from soonerornot.settled import (can_keep, classes, follows, given_by, judge_settled, keep, placing_against, settle,
                                 told_placing, what_can_be)
from trees import JUNK, NO_TUPLES, paths, put

CASES = some_cases(11, 400)
NEVER = (3, (((), (0, 1)), (((0, 1),), None), ((), (1, 0))))


def slow_classes(known, n):
    return sorted({tuple(v for v in range(n) if (u, v) in known and (v, u) in known) for u in range(n)})


def slow_line(known, lot):
    """Return the classes of a lot in their line, as S4.2 tells it."""
    line, left = [], list(lot)
    while left:
        free = [one for one in left if not any((other[0], one[0]) in known for other in left if other != one)]
        line.append(min(free))
        left.remove(min(free))
    return line


def slow_placing(n, line):
    return tuple(next(place for place, one in enumerate(line) if moment in one) for moment in range(n))


def slow_told(book, given):
    known = slow_laps(book, given)
    if None in known:
        return None
    return slow_placing(book[0], slow_line(known, slow_classes(known, book[0])))


def slow_against(book, given, fact):
    known = slow_laps(book, given)
    if None in known or fact in known:
        return None
    lot = slow_classes(known, book[0])
    first = [one for one in lot if (one[0], fact[1]) in known]
    return slow_placing(book[0], slow_line(known, first) + slow_line(known, [one for one in lot if one not in first]))


def unlike_facts(n):
    return [(u, v) for u in range(n) for v in range(n) if u != v]


class Classes(unittest.TestCase):
    def check(self, book, given, found):
        self.assertEqual(classes(book, given), found)
        self.assertIs(type(classes(book, given)), list)
        self.assertEqual([type(one) for one in found], [tuple] * len(found))

    def test_the_examples(self):
        self.check(FOUR, (), [(0,), (1,), (2,), (3,)])
        self.check(FOUR, ((1, 0),), [(0, 1), (2,), (3,)])
        self.check(FOUR, ((3, 0), (2, 3)), [(0, 1, 2, 3)])
        self.check(THREE, (), [(0,), (1,), (2,)])
        self.check(THREE, ((1, 0),), [(0, 1), (2,)])

    def test_also_where_none_is_derived(self):
        self.check(THREE, ((1, 0), (0, 2)), [(0, 1, 2)])
        self.check(NEVER, (), [(0, 1), (2,)])
        self.check((3, (((), None),)), ((2, 0), (0, 2)), [(0, 2), (1,)])

    def test_by_their_least_moments(self):
        self.check((5, ()), ((4, 1), (1, 4), (3, 0), (0, 3)), [(0, 3), (1, 4), (2,)])
        self.check((5, ()), ((4, 1), (1, 2), (2, 4), (0, 3)), [(0,), (1, 2, 4), (3,)])

    def test_no_moments(self):
        self.check((0, ()), (), [])
        self.check((0, (((), None),)), (), [])

    def test_few_moments(self):
        for book, given in CASES:
            self.check(book, given, slow_classes(slow_laps(book, given), book[0]))

    def test_great_ones(self):
        self.check(row_of_moments(40), ((0, 1), (1, 0)), [tuple(range(40))])
        self.check(row_of_moments(40), ((1, 2), (2, 1)), [(0,), tuple(range(1, 40))])
        self.check((40, ()), (), [(k,) for k in range(40)])


class Told(unittest.TestCase):
    def check(self, book, given, placing):
        self.assertEqual(told_placing(book, given), placing)
        if placing is not None:
            check_placing(book[0], told_placing(book, given))

    def test_the_examples(self):
        self.check(FOUR, (), (0, 1, 2, 3))
        self.check(FOUR, ((1, 0),), (0, 0, 1, 2))

    def test_the_class_with_the_least_moment_is_the_next(self):
        self.check((3, (((), (2, 1)),)), (), (0, 2, 1))
        self.check((3, (((), (2, 0)),)), (), (2, 0, 1))
        self.check((4, ()), ((3, 0), (0, 2)), (2, 0, 3, 1))
        self.check((4, ()), ((3, 0), (1, 3), (3, 1)), (1, 0, 2, 0))
        self.check((5, ()), ((4, 0), (0, 4), (2, 1)), (0, 2, 1, 3, 0))

    def test_none_where_none_is_derived(self):
        self.check(THREE, ((1, 0), (0, 2)), None)
        self.check(NEVER, (), None)
        self.check((0, (((), None),)), (), None)

    def test_no_moments(self):
        self.check((0, ()), (), ())

    def test_few_moments(self):
        for book, given in CASES:
            placing = slow_told(book, given)
            self.check(book, given, placing)
            known = slow_laps(book, given)
            kept = keepers(book, given)
            self.assertEqual(placing is not None, bool(kept))
            if placing is not None:
                self.assertTrue(keeps_book(book, placing) and all(keeps_fact(fact, placing) for fact in given))
                for u, v in unlike_facts(book[0]):
                    self.assertEqual(placing[u] == placing[v], (u, v) in known and (v, u) in known)

    def test_great_books(self):
        self.check(row_of_moments(40), (), tuple(range(40)))
        self.check(row_of_moments(40), ((30, 31), (31, 30)), (*range(30), *[30] * 10))
        self.check((40, ()), tuple((k + 1, k) for k in range(39)), tuple(range(39, -1, -1)))
        for seed in range(6):
            book, given = great_case(seed, 10)
            self.check(book, given[:10], slow_told(book, given[:10]))


class Against(unittest.TestCase):
    def check(self, book, given, fact, placing):
        self.assertEqual(placing_against(book, given, fact), placing)

    def test_the_examples(self):
        self.check(FOUR, (), (2, 3), (1, 2, 3, 0))
        self.check((3, (((), (2, 1)),)), (), (0, 1), (2, 1, 0))

    def test_more_by_hand(self):
        self.check(FOUR, (), (3, 1), (0, 1, 2, 3))
        self.check(FOUR, (), (3, 2), (0, 1, 2, 3))
        self.check(FOUR, (), (0, 3), (1, 2, 3, 0))
        self.check(FOUR, ((1, 0),), (3, 2), (0, 0, 1, 2))
        self.check((4, ()), (), (0, 2), (1, 2, 0, 3))
        self.check((4, ()), ((3, 1), (1, 3)), (0, 3), (1, 0, 2, 0))
        # Both lots have several classes, and each goes by its own least moments.
        self.check((6, ()), ((5, 2), (1, 2), (4, 0)), (3, 2), (5, 0, 2, 3, 4, 1))

    def test_none_where_it_or_none_is_derived(self):
        self.check(FOUR, (), (0, 1), None)
        self.check(FOUR, (), (0, 2), None)
        self.check(FOUR, ((1, 0),), (2, 3), None)
        self.check(THREE, ((1, 0), (0, 2)), (0, 1), None)
        self.check((3, (((), None),)), (), (0, 1), None)
        self.check((2, ()), ((1, 0),), (1, 0), None)

    def test_few_moments(self):
        for book, given in CASES:
            kept = keepers(book, given)
            for fact in unlike_facts(book[0]):
                placing = slow_against(book, given, fact)
                self.check(book, given, fact, placing)
                self.assertEqual(placing is not None, any(not keeps_fact(fact, order) for order in kept))
                if placing is not None:
                    self.assertTrue(keeps_book(book, placing) and all(keeps_fact(one, placing) for one in given))
                    self.assertFalse(keeps_fact(fact, placing))


class Given(unittest.TestCase):
    def test_given_by(self):
        for ties, facts in (((), ()), (((0, 1),), ((0, 1), (1, 0))),
                            (((0, 1), (2, 3)), ((0, 1), (1, 0), (2, 3), (3, 2))),
                            (((0, 2), (0, 3), (2, 3)), ((0, 2), (2, 0), (0, 3), (3, 0), (2, 3), (3, 2)))):
            self.assertEqual(given_by(ties), facts)
            self.assertIs(type(given_by(ties)), tuple)


class Following(unittest.TestCase):
    def check(self, book, saying, followed):
        with self.subTest(book=book, saying=saying):
            self.assertIs(follows(book, saying), followed)
            found = settle(book, saying)
            self.assertIs(type(found), tuple)
            word, paper = found
            self.assertEqual(word, "follows" if followed else "not")
            ties, head = saying
            if followed:
                self.assertIn(paper[-1][0], (head, None))
                self.assertIsNone(fault_of(book, given_by(ties), paper[-1][0], paper))
            elif head is None:
                self.assertEqual(paper, slow_told(book, given_by(ties)))
            else:
                self.assertEqual(paper, slow_against(book, given_by(ties), head))
            self.assertIsNone(judge_settled(book, saying, found))

    def test_by_hand(self):
        for saying in FOUR[1]:
            self.check(FOUR, saying, True)
        self.check(FOUR, ((), (0, 2)), True)
        self.check(FOUR, (((0, 2),), None), True)
        self.check(FOUR, (((0, 3),), (2, 0)), False)
        self.check(FOUR, (((0, 1),), (0, 3)), True)
        self.check(FOUR, ((), (0, 3)), False)
        self.check(FOUR, ((), None), False)
        self.check(FOUR, (((1, 2),), (3, 0)), True)

    def test_a_saying_that_can_not_be_and_one_whose_head_is_derived(self):
        self.assertEqual(settle(THREE, (((0, 1), (0, 2)), None))[1][-1][0], None)
        self.check(THREE, (((0, 1), (0, 2)), None), True)
        self.check(THREE, (((0, 2),), (1, 0)), True)
        self.check(THREE, (((0, 1),), (2, 1)), True)
        self.check(THREE, (((0, 1),), (1, 2)), False)
        self.check(THREE, (((1, 2),), None), False)

    def test_the_placings_that_are_told(self):
        self.assertEqual(settle(FOUR, ((), None)), ("not", (0, 1, 2, 3)))
        self.assertEqual(settle(FOUR, (((0, 1),), None)), ("not", (0, 0, 1, 2)))
        self.assertEqual(settle(FOUR, ((), (2, 3))), ("not", (1, 2, 3, 0)))
        self.assertEqual(settle((3, (((), (2, 1)),)), ((), (0, 1))), ("not", (2, 1, 0)))

    def test_idle_sayings_follow_from_any_book(self):
        for book in ((4, ()), FOUR, (4, (((), None),))):
            self.check(book, (((0, 1), (1, 2)), (2, 0)), True)
            self.check(book, (((0, 3),), (3, 0)), True)

    def test_all_follows_from_what_can_not_be_kept(self):
        for saying in (((), None), ((), (2, 1)), (((0, 2),), (1, 2)), (((0, 1),), None)):
            self.check(NEVER, saying, True)
        self.check((0, (((), None),)), ((), None), True)
        self.check((0, ()), ((), None), False)

    def test_few_moments(self):
        rng = random.Random(12)
        for book, _ in CASES:
            kept = keepers(book)
            for _ in range(6):
                saying = some_saying(rng, book[0], 3)
                self.check(book, saying, all(keeps(saying, order) for order in kept))

    def test_great_books(self):
        for seed in range(4):
            book, _ = great_case(seed, 10)
            for saying in (*book[1][:3], *great_case(seed + 20, 10)[0][1][:3]):
                known = slow_laps(book, given_by(saying[0]))
                self.check(book, saying, None in known or saying[1] in known)
        self.check(row_of_moments(40), (((0, 1),), (39, 0)), True)
        self.check(row_of_moments(40), (((1, 2),), (39, 0)), False)


class Keeping(unittest.TestCase):
    def check(self, book, kept):
        with self.subTest(book=book):
            self.assertIs(can_keep(book), kept)
            word, paper = keep(book)
            self.assertEqual(word, "kept" if kept else "never")
            self.assertIs(type(keep(book)), tuple)
            if kept:
                self.assertEqual(paper, slow_told(book, ()))
                self.assertTrue(keeps_book(book, paper))
            else:
                self.assertIsNone(fault_of(book, (), None, paper))
            self.assertEqual(keep(book), (word, paper))

    def test_by_hand(self):
        self.check(FOUR, True)
        self.check(THREE, True)
        self.check(NEVER, False)
        self.check((0, ()), True)
        self.check((0, (((), None),)), False)
        self.check((2, (((), (0, 1)), (((0, 1),), None))), True)
        self.check((2, (((), (0, 1)), ((), (1, 0)))), True)
        self.assertEqual(keep((2, (((), (1, 0)),))), ("kept", (1, 0)))

    def test_few_moments(self):
        for book, _ in CASES:
            self.check(book, bool(keepers(book)))

    def test_great_books(self):
        for seed in range(4):
            book, given = great_case(seed, 10)
            self.check(book, None not in slow_laps(book, ()))
            tight = (40, (*book[1], *[((), pair) for pair in given if pair[0] != pair[1]]))
            self.check(tight, None not in slow_laps(tight, ()))


class Judging(unittest.TestCase):
    SAYING = (((0, 1),), (0, 3))
    PAPER = (((0, 1), ("given", 0)), ((1, 0), ("given", 1)), ((1, 1), ("same",)), ((2, 3), ("fire", 1, ((0, 1),))),
             ((1, 2), ("fire", 2, ())), ((0, 2), ("chain", 0, 4)), ((0, 3), ("chain", 5, 3)))

    def check(self, book, saying, value, fault):
        with self.subTest(book=book, saying=saying, value=value):
            self.assertEqual(judge_settled(book, saying, value), fault)

    def test_right_papers_that_are_not_told_here(self):
        self.assertNotEqual(settle(FOUR, self.SAYING), ("follows", self.PAPER))
        self.check(FOUR, self.SAYING, ("follows", self.PAPER), None)
        for placing in ((0, 4, 7, -1), (-9, -8, 10 ** 39, -9 - 1), (1, 2, 3, 0), (-5, -4, -3, -10 ** 39)):
            self.check(FOUR, ((), (0, 3)), ("not", placing), None)
        self.check(NEVER, ((), (2, 0)), ("follows", (((0, 1), ("fire", 0, ())), ((1, 0), ("fire", 2, ())),
                                                     ((2, 2), ("same",)), (None, ("fire", 1, ((0, 1),))))), None)
        # The head is derived here, and so is None: either will do.
        book = (2, (((), (0, 1)), ((), None)))
        self.check(book, ((), (0, 1)), ("follows", (((0, 1), ("fire", 0, ())),)), None)
        self.check(book, ((), (0, 1)), ("follows", ((None, ("fire", 1, ())),)), None)
        self.check(book, ((), None), ("follows", (((0, 1), ("fire", 0, ())), (None, ("fire", 1, ())))), None)

    def test_form(self):
        paper, placing = self.PAPER, (1, 2, 3, 0)
        for value in (*JUNK, (), ("follows",), ("not",), ("follows", paper, 0), ("not", placing, 0), ["follows", paper],
                      ["not", placing], (paper, "follows"), (placing, "not"), ("kept", placing), ("never", paper),
                      ("Follows", paper), (None, paper), (["not"], placing), ("can", placing), (("not",), placing)):
            self.check(FOUR, self.SAYING, value, ("form",))
        for placing in (*JUNK, (), (1, 2, 3), (1, 2, 3, 0, 4), (1, 2, 3, True), (False, 1, 2, 3), (1, 2, 3, None),
                        [1, 2, 3, 0], (1, 2, (3,), 0), (1, 2, "3", 0)):
            if placing != (0, 1, 2, 3):
                self.check(FOUR, ((), (0, 3)), ("not", placing), ("form",))
        self.check((0, ()), ((), None), ("not", ()), None)
        self.check((0, ()), ((), None), ("not", []), ("form",))
        self.check((0, ()), ((), None), ("not", (0,)), ("form",))

    def test_derivation(self):
        for k in range(7):
            for row in (((3, 0), ("given", 0)), ((0, 3), ("given", 0)), (None, ("given", 0)), ((0, 1), ("given", 2))):
                value = (*self.PAPER[:k], row, *self.PAPER[k + 1:])
                self.check(FOUR, self.SAYING, ("follows", value), ("derivation", ("row", k)))
        self.check(FOUR, self.SAYING, ("follows", self.PAPER[:6]), ("derivation", ("last",)))
        self.check(FOUR, (((0, 1),), None), ("follows", self.PAPER), ("derivation", ("last",)))
        self.check(FOUR, ((), (0, 3)), ("follows", self.PAPER), ("derivation", ("row", 0)))
        self.check(FOUR, (((0, 1),), (1, 3)), ("follows", self.PAPER), ("derivation", ("last",)))
        for paper in (*JUNK, (), list(self.PAPER), (1, 2, 3, 0), ((None,),), ((None, 0, 0),)):
            self.check(FOUR, self.SAYING, ("follows", paper), ("derivation", ("form",)))

    def test_a_last_row_that_begins_with_none(self):
        for row, fault in (((None, ("given", 0)), ("row", 7)), ((None, ("fire", 3, ((3, 4),))), ("row", 7)),
                           ((None, 0), ("form",)), ((None, None), ("form",)), ([None, ("given", 0)], ("form",))):
            self.check(FOUR, self.SAYING, ("follows", (*self.PAPER, row)), ("derivation", fault))
        # None is right for any saying, the head only for its own.
        rows = (((0, 1), ("fire", 0, ())), ((1, 0), ("fire", 2, ())), (None, ("fire", 1, ((0, 1),))))
        for saying in (((), None), ((), (2, 1)), (((0, 2),), (0, 1))):
            self.check(NEVER, saying, ("follows", rows), None)
        self.check(NEVER, ((), (0, 1)), ("follows", (rows[2], *rows[:1])), ("derivation", ("row", 0)))
        self.check(NEVER, ((), (0, 1)), ("follows", (*rows, rows[0])), None)

    def test_breaks(self):
        saying = ((), (0, 3))
        self.check(FOUR, saying, ("not", (2, 1, 3, 0)), ("breaks", 0))
        self.check(FOUR, saying, ("not", (2, 2, 3, 0)), ("breaks", 1))
        self.check(FOUR, saying, ("not", (1, 2, 1, 0)), ("breaks", 2))
        self.check(FOUR, saying, ("not", (1, 2, 2, 0)), ("breaks", 3))
        # Of two faults the first.
        self.check(FOUR, saying, ("not", (0, 0, -1, -2)), ("breaks", 1))
        self.check(FOUR, saying, ("not", (3, 2, 1, 9)), ("breaks", 0))

    def test_keeps(self):
        self.check(FOUR, ((), (0, 3)), ("not", (0, 1, 2, 3)), ("keeps",))
        self.check(FOUR, ((), (0, 3)), ("not", (0, 1, 2, 0)), ("keeps",))
        self.check(FOUR, (((0, 3),), None), ("not", (0, 1, 2, 3)), ("keeps",))
        self.check(FOUR, (((0, 3),), None), ("not", (0, 1, 2, 0)), None)
        self.check(FOUR, self.SAYING, ("not", (0, 1, 2, -1)), ("keeps",))

    def test_each_part_exchanged(self):
        value = ("follows", self.PAPER)
        for path in paths(value):
            for new in (*NO_TUPLES, 0, 1, 2, 3, 99, (), (0,), (0, 0), (2, 0), ("same",), ("given", 1), "not"):
                changed = put(value, path, new)
                fault = judge_settled(FOUR, self.SAYING, changed)
                if path in ((), (0,)):
                    self.assertEqual(fault, ("form",))
                    continue
                paper = changed[1]
                fact = (0, 3)
                if type(paper) is tuple and paper and type(paper[-1]) is tuple and len(paper[-1]) == 2:
                    fact = None if paper[-1][0] is None else fact
                told = fault_of(FOUR, ((0, 1), (1, 0)), fact, paper)
                self.assertEqual(fault, None if told is None else ("derivation", told))
                self.assertEqual(judge_derivation(FOUR, ((0, 1), (1, 0)), fact, paper), told)


class CanBe(unittest.TestCase):
    def check(self, book, u, v, words):
        with self.subTest(book=book, u=u, v=v):
            self.assertEqual(what_can_be(book, u, v), words)
            self.assertIs(type(what_can_be(book, u, v)), list)

    def test_each_of_the_words_alone_and_together(self):
        early, late, apart = ((), (0, 1)), ((), (1, 0)), (((0, 1),), None)
        for sayings, words in (((), ["before", "at once", "behind"]), ((early,), ["before", "at once"]),
                               ((late,), ["at once", "behind"]), ((apart,), ["before", "behind"]),
                               ((early, apart), ["before"]), ((early, late), ["at once"]), ((late, apart), ["behind"]),
                               ((early, late, apart), [])):
            self.check((2, sayings), 0, 1, words)
            mirror = {"before": "behind", "behind": "before", "at once": "at once"}
            self.check((2, sayings), 1, 0, [mirror[word] for word in reversed(words)])

    def test_the_examples(self):
        self.check(FOUR, 0, 2, ["before"])
        self.check(FOUR, 2, 0, ["behind"])
        self.check(FOUR, 0, 1, ["before", "at once"])
        self.check(FOUR, 2, 3, ["before", "at once", "behind"])
        self.check(THREE, 0, 2, ["before", "behind"])

    def test_not_at_once_though_neither_fact_is_derived(self):
        self.check((3, ((((0, 1),), (1, 2)), (((0, 1),), (2, 1)), (((1, 2),), None))), 0, 1, ["before", "behind"])

    def test_a_book_that_can_not_be_kept(self):
        self.check(NEVER, 0, 1, [])
        self.check(NEVER, 2, 0, [])
        self.check((2, (((), None),)), 0, 1, [])

    def test_few_moments(self):
        for book, _ in CASES:
            kept = keepers(book)
            for u, v in unlike_facts(book[0]):
                self.check(book, u, v, [word for word, can in (
                    ("before", any(order[u] < order[v] for order in kept)),
                    ("at once", any(order[u] == order[v] for order in kept)),
                    ("behind", any(order[u] > order[v] for order in kept))) if can])


class Anew(unittest.TestCase):
    def test_each_call_gives_a_new_list(self):
        for call in (lambda: classes(FOUR, ()), lambda: what_can_be(FOUR, 0, 1)):
            first = call()
            first.append("more")
            self.assertNotEqual(call(), first)

    def test_the_same_comes_again_and_judging_changes_nothing(self):
        value = ("follows", ([1], {"a": [2]}))
        for _ in range(2):
            self.assertEqual(judge_settled(FOUR, ((), (0, 1)), value), ("derivation", ("form",)))
        self.assertEqual(value, ("follows", ([1], {"a": [2]})))
        for book, given in CASES[:60]:
            self.assertEqual(classes(book, given), classes(book, given))
            self.assertEqual(settle(book, ((), None)), settle(book, ((), None)))
            self.assertEqual(closed(book, given)[1], told_placing(book, given) is not None)
            for fact in facts_of(book[0])[:-1]:
                if fact[0] != fact[1]:
                    self.assertEqual(placing_against(book, given, fact), placing_against(book, given, fact))


if __name__ == "__main__":
    unittest.main()
