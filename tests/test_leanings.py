import random
import unittest

from slow import FOUR, THREE, fault_of, is_derivation, some_book, some_facts
from soonerornot.derivations import derivation
from soonerornot.leanings import grafted, leaned, turned_derivation, uses
from soonerornot.sides import turned_book

SHOWN = (((0, 1), ("fire", 0, ())), ((1, 0), ("given", 0)), ((2, 0), ("fire", 1, ((0, 1),))))
LONGER = (((2, 2), ("same",)), ((0, 1), ("fire", 0, ())), ((1, 0), ("given", 0)), ((2, 0), ("fire", 1, ((1, 2),))))


def some_derivation(rng, book, given, many):
    """Return a derivation of so many rows put down as they come: useless ones too, facts more than once."""
    rows = []
    while len(rows) < many:
        numbers = list(range(len(rows)))
        word = rng.choice(("same", "given", "chain", "chain", "fire", "fire"))
        if word == "same" and book[0]:
            moment = rng.randrange(book[0])
            rows.append(((moment, moment), ("same",)))
        elif word == "given" and given:
            k = rng.randrange(len(given))
            rows.append((given[k], ("given", k)))
        elif word == "chain" and rows:
            pairs = [(i, j) for i in numbers for j in numbers if None not in (rows[i][0], rows[j][0])
                     and rows[i][0][1] == rows[j][0][0]]
            if pairs:
                i, j = rng.choice(pairs)
                rows.append(((rows[i][0][0], rows[j][0][1]), ("chain", i, j)))
        elif word == "fire" and book[1]:
            k = rng.randrange(len(book[1]))
            ties, head = book[1][k]
            found = [([i for i in numbers if rows[i][0] == (a, b)], [j for j in numbers if rows[j][0] == (b, a)])
                     for a, b in ties]
            if all(one and other for one, other in found):
                rows.append((head, ("fire", k, tuple((rng.choice(one), rng.choice(other)) for one, other in found))))
        if not rows and not (book[0] or book[1]):
            return None
        many -= rng.random() < 0.02
    return tuple(rows) or None


def some_derivations():
    rng = random.Random(5)
    found = []
    for _ in range(400):
        n = rng.randint(1, 4)
        book, given = some_book(rng, n, 6, 1), some_facts(rng, n, 4)
        value = some_derivation(rng, book, given, rng.randint(1, 25))
        if value is not None:
            found.append((book, given, value))
    return found


DERIVATIONS = some_derivations()


def names_of(reason):
    if reason[0] == "chain":
        return reason[1:]
    return sum(reason[2], ()) if reason[0] == "fire" else ()


def with_names(reason, new):
    if reason[0] == "chain":
        return ("chain", new[reason[1]], new[reason[2]])
    if reason[0] == "fire":
        return ("fire", reason[1], tuple((new[i], new[j]) for i, j in reason[2]))
    return reason


def needed_of(names, last):
    """Return the ascending list of the numbers that are needed for the last one."""
    needed = {last}
    for k in range(last, -1, -1):
        if k in needed:
            needed |= set(names[k])
    return sorted(needed)


def slow_leaned(value):
    facts = [fact for fact, _ in value]
    reasons = [reason for _, reason in value]
    needed = needed_of([names_of(reason) for reason in reasons], len(value) - 1)
    first = {k: next(i for i in needed if facts[i] == facts[k]) for k in needed}
    redirected = {k: with_names(reasons[k], first) for k in needed}
    last = first[len(value) - 1]
    names = [names_of(redirected[k]) if k in redirected else () for k in range(len(value))]
    left = needed_of(names, last)
    places = {k: place for place, k in enumerate(left)}
    return tuple((facts[k], with_names(redirected[k], places)) for k in left)


class Leaning(unittest.TestCase):
    def check(self, value, lean):
        with self.subTest(value=value):
            self.assertEqual(leaned(value), lean)
            self.assertIs(type(leaned(value)), tuple)
            self.assertEqual(leaned(lean), lean)

    def test_the_example(self):
        self.check(LONGER, SHOWN)
        self.check(SHOWN, SHOWN)

    def test_rows_that_nothing_needs(self):
        self.check((*LONGER, ((1, 1), ("same",))), (((1, 1), ("same",)),))
        self.check((*LONGER[:3], ((0, 0), ("chain", 1, 2))),
                   (((0, 1), ("fire", 0, ())), ((1, 0), ("given", 0)), ((0, 0), ("chain", 0, 1))))
        self.check((((0, 1), ("given", 0)), ((2, 2), ("same",)), ((1, 2), ("given", 1)), ((0, 2), ("chain", 0, 2))),
                   (((0, 1), ("given", 0)), ((1, 2), ("given", 1)), ((0, 2), ("chain", 0, 1))))

    def test_facts_that_stand_twice(self):
        self.check((((0, 1), ("given", 0)), ((0, 1), ("fire", 0, ())), ((1, 0), ("given", 1)),
                    ((0, 0), ("chain", 0, 2)), ((0, 1), ("chain", 3, 1)), ((1, 1), ("chain", 2, 4))),
                   (((0, 1), ("given", 0)), ((1, 0), ("given", 1)), ((1, 1), ("chain", 1, 0))))
        # The one that stands ahead of the others is not needed itself, so the first needed one stays.
        self.check((((0, 1), ("given", 0)), ((0, 1), ("fire", 0, ())), ((1, 0), ("given", 1)),
                    ((1, 1), ("chain", 2, 1))),
                   (((0, 1), ("fire", 0, ())), ((1, 0), ("given", 1)), ((1, 1), ("chain", 1, 0))))

    def test_a_last_row_whose_fact_stands_earlier(self):
        self.check((((0, 1), ("given", 0)), ((1, 0), ("given", 1)), ((0, 0), ("chain", 0, 1)),
                    ((0, 1), ("chain", 2, 0))), (((0, 1), ("given", 0)),))
        self.check((((0, 1), ("given", 0)), ((0, 1), ("given", 0))), (((0, 1), ("given", 0)),))
        self.check((((0, 1), ("given", 0)), ((1, 0), ("given", 1)), ((0, 0), ("chain", 0, 1)), ((0, 1), ("given", 2)),
                    ((0, 1), ("chain", 2, 3)), ((0, 0), ("same",)), ((0, 1), ("chain", 5, 4))),
                   (((0, 1), ("given", 0)),))
        # The first one is not needed here, so it is none of those that are looked at.
        self.check(((None, ("fire", 0, ())), (None, ("fire", 1, ()))), ((None, ("fire", 1, ())),))

    def test_what_stood_behind_the_first_one_is_left_out(self):
        self.check((((1, 2), ("given", 0)), ((0, 1), ("given", 1)), ((0, 2), ("chain", 1, 0)), ((2, 2), ("same",)),
                    ((0, 2), ("chain", 2, 3))),
                   (((1, 2), ("given", 0)), ((0, 1), ("given", 1)), ((0, 2), ("chain", 1, 0))))

    def test_rows_that_are_no_longer_needed(self):
        # The second (0, 2) needs (1, 1); the first one does not.
        self.check((((0, 1), ("given", 0)), ((1, 2), ("given", 1)), ((0, 2), ("chain", 0, 1)), ((1, 1), ("same",)),
                    ((0, 1), ("chain", 0, 3)), ((0, 2), ("chain", 4, 1)), ((2, 2), ("same",)),
                    ((0, 2), ("chain", 2, 6)),
                    ((2, 0), ("given", 2)), ((0, 0), ("chain", 5, 8)), ((0, 0), ("chain", 9, 9)),
                    ((0, 2), ("chain", 10, 7)), ((2, 2), ("chain", 8, 11))),
                   (((2, 2), ("same",)),))

    def test_a_single_row(self):
        for row in (((1, 1), ("same",)), ((0, 1), ("given", 5)), (None, ("fire", 3, ()))):
            self.check((row,), (row,))

    def test_many(self):
        for book, given, value in DERIVATIONS:
            self.assertTrue(is_derivation(book, given, value))
            lean = leaned(value)
            self.check(value, slow_leaned(value))
            self.assertIsNone(fault_of(book, given, value[-1][0], lean))
            self.assertEqual(len({fact for fact, _ in lean}), len(lean))
            names = [names_of(reason) for _, reason in lean]
            self.assertEqual(needed_of(names, len(lean) - 1), list(range(len(lean))))

    def test_long_ones(self):
        rows = tuple(((0, 0), ("chain", k - 1, k // 2)) if k else ((0, 0), ("same",)) for k in range(5000))
        self.check(rows, (((0, 0), ("same",)),))


class Using(unittest.TestCase):
    def check(self, value, used):
        self.assertEqual(uses(value), used)
        self.assertEqual([type(part) for part in (uses(value), *uses(value))], [tuple] * 3)

    def test_the_example(self):
        self.check(SHOWN, ((0,), (0, 1)))
        self.check(LONGER, ((0,), (0, 1)))

    def test_all_rows_count_each_number_once_ascending(self):
        self.check((((1, 1), ("same",)),), ((), ()))
        self.check((((0, 1), ("given", 7)), ((0, 1), ("given", 2)), ((0, 1), ("given", 7))), ((2, 7), ()))
        self.check(((None, ("fire", 9, ())), ((0, 1), ("fire", 3, ())), (None, ("fire", 9, ())),
                    ((1, 1), ("given", 10))), ((10,), (3, 9)))

    def test_numbers_of_rows_are_none_of_them(self):
        self.check((((0, 0), ("same",)), ((0, 0), ("chain", 0, 0)), ((0, 0), ("chain", 1, 1))), ((), ()))
        self.check((((0, 1), ("given", 4)), ((1, 0), ("given", 5)), ((2, 0), ("fire", 6, ((0, 1),)))), ((4, 5), (6,)))

    def test_it_is_a_derivation_from_these_alone(self):
        for book, given, value in DERIVATIONS:
            facts, sayings = uses(value)
            less = tuple(tuple((fact, (*reason[:1], {"given": facts, "fire": sayings}[reason[0]].index(reason[1]),
                                       *reason[2:]) if reason[0] in ("given", "fire") else reason)
                         for fact, reason in value))
            self.assertTrue(is_derivation((book[0], tuple(book[1][k] for k in sayings)),
                                          tuple(given[k] for k in facts), less))


class Grafting(unittest.TestCase):
    def check(self, value, others, rows):
        with self.subTest(value=value, others=others):
            self.assertEqual(grafted(value, others), rows)
            self.assertIs(type(grafted(value, others)), tuple)

    def test_nothing_given(self):
        value = (((0, 0), ("same",)), ((0, 1), ("fire", 0, ())))
        self.check(value, {}, value)

    def test_each_derivation_once_and_then_the_own_rows(self):
        self.check(SHOWN, {0: (((1, 2), ("given", 3)), ((2, 0), ("given", 1)), ((1, 0), ("chain", 0, 1)))},
                   (((1, 2), ("given", 3)), ((2, 0), ("given", 1)), ((1, 0), ("chain", 0, 1)),
                    ((0, 1), ("fire", 0, ())), ((2, 0), ("fire", 1, ((3, 2),)))))
        self.check((((0, 1), ("given", 5)), ((1, 2), ("given", 2)), ((0, 1), ("given", 5)), ((0, 2), ("chain", 2, 1)),
                    ((0, 2), ("chain", 0, 1))),
                   {5: (((1, 1), ("same",)), ((0, 1), ("given", 0))), 2: (((1, 2), ("given", 1)),)},
                   (((1, 2), ("given", 1)), ((1, 1), ("same",)), ((0, 1), ("given", 0)), ((0, 2), ("chain", 2, 0)),
                    ((0, 2), ("chain", 2, 0))))

    def test_the_derivations_stand_by_ascending_numbers_whatever_the_dict(self):
        value = (((0, 1), ("given", 10)), ((1, 2), ("given", 9)), ((0, 2), ("chain", 0, 1)))
        rows = (((1, 2), ("given", 1)), ((0, 1), ("given", 0)), ((0, 2), ("chain", 1, 0)))
        self.check(value, {10: (((0, 1), ("given", 0)),), 9: (((1, 2), ("given", 1)),)}, rows)
        self.check(value, {9: (((1, 2), ("given", 1)),), 10: (((0, 1), ("given", 0)),)}, rows)

    def test_a_given_row_that_is_the_last_one(self):
        self.check((((0, 1), ("given", 0)),), {0: (((0, 1), ("given", 4)),)},
                   (((0, 1), ("given", 4)), ((0, 1), ("given", 4))))
        self.check((((0, 1), ("given", 0)),),
                   {0: (((0, 1), ("given", 4)), ((1, 1), ("same",)), ((0, 1), ("chain", 0, 1)))},
                   (((0, 1), ("given", 4)), ((1, 1), ("same",)), ((0, 1), ("chain", 0, 1)), ((0, 1), ("chain", 0, 1))))
        self.check((((1, 0), ("given", 1)), ((1, 1), ("same",)), ((0, 1), ("given", 0))),
                   {0: (((0, 1), ("fire", 0, ())),), 1: (((1, 1), ("same",)), ((1, 0), ("given", 0)))},
                   (((0, 1), ("fire", 0, ())), ((1, 1), ("same",)), ((1, 0), ("given", 0)), ((1, 1), ("same",)),
                    ((0, 1), ("fire", 0, ()))))

    def test_the_last_row_put_once_more_names_the_same_rows(self):
        others = {2: (((0, 1), ("given", 0)),), 3: (((1, 2), ("given", 1)), ((1, 0), ("given", 2)),
                                                    ((2, 0), ("fire", 0, ((1, 0),))))}
        self.check((((0, 1), ("given", 2)), ((2, 0), ("given", 3))), others,
                   (((0, 1), ("given", 0)), ((1, 2), ("given", 1)), ((1, 0), ("given", 2)),
                    ((2, 0), ("fire", 0, ((2, 1),))), ((2, 0), ("fire", 0, ((2, 1),)))))

    def test_many(self):
        rng = random.Random(8)
        for book, given, value in DERIVATIONS:
            # Each given fact is given again, at another place, and comes by way of one of one moment, too.
            others = {}
            longer = (*some_facts(rng, book[0], 2), *reversed(given))
            for k in uses(value)[0]:
                u, v = given[k]
                others[k] = (((u, v), ("given", len(longer) - 1 - k)), ((v, v), ("same",)), ((u, v), ("chain", 0, 1)))
                others[k] = others[k][:rng.choice((1, 3))]
            found = grafted(value, others)
            self.assertIsNone(fault_of(book, longer, value[-1][0], found))
            own = [fact for fact, reason in value if reason[0] != "given"]
            ahead = [fact for k in sorted(others) for fact, _ in others[k]]
            again = [value[-1][0]] if value[-1][1][0] == "given" else []
            self.assertEqual([fact for fact, _ in found], ahead + own + again)
            self.assertEqual(grafted(value, others), found)

    def test_what_was_passed_is_as_it_was(self):
        others = {0: (((1, 2), ("given", 3)), ((2, 0), ("given", 1)), ((1, 0), ("chain", 0, 1)))}
        grafted(SHOWN, others)
        self.assertEqual(others, {0: (((1, 2), ("given", 3)), ((2, 0), ("given", 1)), ((1, 0), ("chain", 0, 1)))})


class Turning(unittest.TestCase):
    def test_row_by_row(self):
        value = (((2, 2), ("same",)), ((0, 1), ("given", 0)), ((1, 0), ("given", 1)), ((0, 0), ("chain", 1, 2)),
                 ((2, 0), ("fire", 4, ((1, 2), (3, 0)))), (None, ("fire", 5, ())))
        self.assertEqual(turned_derivation(value), (
            ((2, 2), ("same",)), ((1, 0), ("given", 0)), ((0, 1), ("given", 1)), ((0, 0), ("chain", 2, 1)),
            ((0, 2), ("fire", 4, ((2, 1), (0, 3)))), (None, ("fire", 5, ()))))
        self.assertIs(type(turned_derivation(value)), tuple)

    def test_the_example(self):
        self.assertEqual(turned_derivation(SHOWN), (((1, 0), ("fire", 0, ())), ((0, 1), ("given", 0)),
                                                    ((0, 2), ("fire", 1, ((1, 0),)))))

    def test_it_is_a_derivation_from_the_turned_book(self):
        for book, given, value in DERIVATIONS:
            found = turned_derivation(value)
            fact = value[-1][0]
            self.assertIsNone(fault_of(turned_book(book), tuple((v, u) for u, v in given),
                                       None if fact is None else (fact[1], fact[0]), found))
            self.assertEqual(turned_derivation(found), value)

    def test_what_the_package_derives(self):
        for book, given, fact in ((THREE, ((1, 0), (0, 2)), None), (FOUR, ((1, 0),), (1, 3))):
            value = derivation(book, given, fact)
            self.assertEqual(leaned(value), value)
            self.assertTrue(is_derivation(turned_book(book), tuple((v, u) for u, v in given), turned_derivation(value)))


if __name__ == "__main__":
    unittest.main()
