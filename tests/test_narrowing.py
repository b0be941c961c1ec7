import itertools
import random
import unittest

from slow import SIX, some_saying, with_stretches
from soonerornot.labels import label
from soonerornot.narrowing import first_table, judge_narrowing, narrow_table, narrowed_by, narrowing_paper
from soonerornot.placings import keeps
from soonerornot.together import together_lots
from soonerornot.ways import turned_lot, way_order
from trees import JUNK, nested, paths, put

ALL = tuple(range(13))
THREE = ((0, 1), (2, 3), (4, 5))


def triples_of(many):
    return list(itertools.permutations(range(many), 3))


def slow_first(book, stretches):
    """Return the first table, each lot of it from the words of S6.4."""
    rows = []
    for one in stretches:
        row = []
        for other in stretches:
            four = (*one, *other)
            about = [(ties, head) for ties, head in book[1]
                     if {moment for pair in (*ties, *([head] if head else [])) for moment in pair} <= set(four)]
            row.append((0,) if one == other else tuple(
                way for way in ALL if all(keeps(saying, dict(zip(four, way_order(way)))) for saying in about)))
        rows.append(tuple(row))
    return tuple(rows)


def slow_narrowed(table, s, x, t):
    made = together_lots(table[s][x], table[x][t])
    return put(table, (s, t), tuple(way for way in table[s][t] if way in made))


def slow_narrow(table, triples):
    """Return the table narrowed by some triples, again and again, until nothing can be taken out."""
    before = None
    while table != before:
        before = table
        for triple in triples:
            table = slow_narrowed(table, *triple)
    return table


def some_books(seed, many, most):
    """Return so many pairs of a book and stretches of it, more or less tight."""
    rng = random.Random(seed)
    found = []
    for _ in range(many):
        count = rng.randint(1, most)
        n = 2 * count + rng.randint(0, 1)
        moments = rng.sample(range(n), 2 * count)
        stretches = [tuple(moments[k:k + 2]) for k in range(0, 2 * count, 2)]
        sayings = []
        for _ in range(rng.randint(0, 4 * count)):
            one, other = rng.choice(stretches), rng.choice(stretches)
            ties, head = some_saying(rng, 4, 1)
            names = [*one, *other]
            if len(set(names)) == 4:
                ties = tuple(sorted(tuple(sorted((names[a], names[b]))) for a, b in ties))
                sayings.append((ties, head and (names[head[0]], names[head[1]])))
        sayings = [one for one in sayings if one != ((), None) or rng.random() < 0.02]
        found.append((with_stretches(n, stretches, sayings), tuple(stretches)))
    return found


BOOKS = some_books(71, 150, 4)


class First(unittest.TestCase):
    def check(self, book, stretches, table):
        with self.subTest(book=book, stretches=stretches):
            self.assertEqual(first_table(book, stretches), table)
            self.assertEqual([type(row) for row in first_table(book, stretches)], [tuple] * len(stretches))
            self.assertIs(type(first_table(book, stretches)), tuple)

    def test_the_example(self):
        self.check(SIX, THREE, (((0,), ALL, (2,)), (ALL, (0,), ALL), ((8,), ALL, (0,))))

    def test_one_stretch_alone(self):
        self.check(SIX, ((2, 3),), (((0,),),))
        self.check((6, (*SIX[1], ((), None))), ((2, 3),), (((0,),),))

    def test_a_saying_without_moments(self):
        self.check((6, (*SIX[1], ((), None))), THREE, (((0,), (), ()), ((), (0,), ()), ((), (), (0,))))

    def test_sayings_of_one_stretch_count_at_each_of_its_lots(self):
        # That a stretch is none leaves no way for it, whatever the other one is.
        book = (6, (*SIX[1], ((), (1, 0))))
        self.check(book, THREE, (((0,), (), ()), ((), (0,), ALL), ((), ALL, (0,))))

    def test_sayings_of_moments_of_no_stretch_or_of_three_do_not_count(self):
        book = with_stretches(7, THREE, [((), (6, 0)), (((0, 6),), None), (((0, 2), (2, 4)), None),
                                         (((0, 2),), (4, 1))])
        self.check(book, THREE, tuple(tuple((0,) if one == other else ALL for other in THREE) for one in THREE))

    def test_many(self):
        for book, stretches in BOOKS:
            self.check(book, stretches, slow_first(book, stretches))
            table = first_table(book, stretches)
            for s, t in itertools.product(range(len(stretches)), repeat=2):
                self.assertEqual(table[t][s], turned_lot(table[s][t]))

    def test_a_list_and_a_tuple(self):
        for book, stretches in BOOKS[:30]:
            for call in (first_table, narrow_table, narrowing_paper):
                self.assertEqual(call(book, list(stretches)), call(book, stretches))


class Narrowed(unittest.TestCase):
    TABLE = (((0,), (2, 3, 6), (3, 12)), (ALL, (0,), (6, 7)), ((8,), (), (0,)))

    def check(self, table, triple, lot):
        found = narrowed_by(table, *triple)
        self.assertEqual(found, put(table, (triple[0], triple[2]), lot))
        self.assertEqual([type(part) for part in (found, *found)], [tuple] * (len(found) + 1))

    def test_by_hand(self):
        self.check(self.TABLE, (0, 1, 2), (3,))
        self.check(self.TABLE, (2, 0, 1), ())
        self.check(self.TABLE, (1, 0, 2), (6, 7))
        self.check(self.TABLE, (0, 2, 1), ())
        self.check(self.TABLE, (2, 1, 0), ())
        self.check(put(self.TABLE, (0, 1), ALL), (0, 2, 1), ())

    def test_the_lot_the_other_way_round_stays(self):
        table = (((0,), (3,), ALL), (ALL, (0,), (3,)), (ALL, ALL, (0,)))
        self.check(table, (0, 1, 2), (3,))
        self.assertEqual(narrowed_by(table, 0, 1, 2)[2][0], ALL)

    def test_many(self):
        rng = random.Random(72)
        for _ in range(200):
            many = rng.randint(3, 5)
            table = tuple(tuple((0,) if s == t else tuple(k for k in ALL if rng.random() < 0.6) for t in range(many))
                          for s in range(many))
            for triple in rng.sample(triples_of(many), 6):
                s, _, t = triple
                self.check(table, triple, slow_narrowed(table, *triple)[s][t])
                self.assertEqual(narrowed_by(narrowed_by(table, *triple), *triple), narrowed_by(table, *triple))

    def test_what_was_passed_is_as_it_was(self):
        table = tuple(tuple(tuple(lot) for lot in row) for row in self.TABLE)
        narrowed_by(table, 0, 1, 2)
        self.assertEqual(table, self.TABLE)


class Narrow(unittest.TestCase):
    def check(self, book, stretches, table):
        with self.subTest(book=book, stretches=stretches):
            self.assertEqual(narrow_table(book, stretches), table)
            self.assertEqual([type(row) for row in narrow_table(book, stretches)], [tuple] * len(stretches))
            paper = narrowing_paper(book, stretches)
            self.assertIs(type(paper), tuple)
            told = first_table(book, stretches)
            for triple in paper:
                told = slow_narrowed(told, *triple)
            self.assertEqual(told, table)
            self.assertIsNone(judge_narrowing(book, stretches, table, paper))
            self.assertEqual(narrowing_paper(book, stretches), paper)

    def test_the_example(self):
        self.check(SIX, THREE, (((0,), ALL, (2,)), (ALL, (0,), ALL), ((8,), ALL, (0,))))
        self.assertEqual(label(SIX, *THREE[:2]), (2, 3))

    def test_one_and_two_stretches(self):
        self.check(SIX, ((4, 5),), (((0,),),))
        self.check(SIX, ((4, 5), (0, 1)), (((0,), (8,)), ((2,), (0,))))

    def test_a_saying_without_moments(self):
        book = (6, (((), None),))
        self.check(book, THREE, (((0,), (), ()), ((), (0,), ()), ((), (), (0,))))
        self.check(book, THREE[:1], (((0,),),))

    def test_what_comes_of_two_others(self):
        book = with_stretches(6, THREE, [((), (1, 2)), ((), (3, 4))])
        self.check(book, THREE, (((0,), (2, 3), (3,)), ((8, 12), (0,), (2, 3)), ((12,), (8, 12), (0,))))
        book = with_stretches(6, THREE, [((), (1, 2)), ((), (3, 4)), ((), (5, 0))])
        self.check(book, THREE, tuple(tuple((0,) if s == t else () for t in range(3)) for s in range(3)))

    def test_many(self):
        for book, stretches in BOOKS:
            self.check(book, stretches, slow_narrow(slow_first(book, stretches), triples_of(len(stretches))))

    def test_rows_of_stretches_in_any_sequence(self):
        # Some of these need more than one going through all triples.
        stretches = (*THREE, (6, 7))
        for names in itertools.permutations(range(4)):
            book = with_stretches(8, stretches, [((), (stretches[s][1], stretches[t][0]))
                                                 for s, t in zip(names, names[1:])])
            table = [[(0,)] * 4 for _ in range(4)]
            for i, j in itertools.combinations(range(4), 2):
                table[names[i]][names[j]] = (2, 3) if j == i + 1 else (3,)
                table[names[j]][names[i]] = (8, 12) if j == i + 1 else (12,)
            self.check(book, stretches, tuple(tuple(row) for row in table))

    def test_in_another_sequence_it_is_the_same(self):
        rng = random.Random(73)
        for book, stretches in BOOKS:
            triples = triples_of(len(stretches))
            rng.shuffle(triples)
            self.assertEqual(slow_narrow(first_table(book, stretches), triples), narrow_table(book, stretches))

    def test_each_label_is_within_it(self):
        for book, stretches in (*BOOKS[:50], (SIX, THREE)):
            table = narrow_table(book, stretches)
            for s, t in itertools.permutations(range(len(stretches)), 2):
                self.assertLessEqual(set(label(book, stretches[s], stretches[t])), set(table[s][t]))

    def test_great_books(self):
        stretches = [(k, k + 1) for k in range(0, 30, 2)]
        chain = with_stretches(40, stretches, [((), (k, k + 1)) for k in range(1, 29, 2)])
        table = narrow_table(chain, stretches)
        for s, t in itertools.combinations(range(15), 2):
            self.assertEqual((table[s][t], table[t][s]), ((2, 3), (8, 12)) if t == s + 1 else ((3,), (12,)))
        self.assertIsNone(judge_narrowing(chain, stretches, table, narrowing_paper(chain, stretches)))
        loose = with_stretches(40, stretches, [((), (k, k + 2)) for k in range(0, 28, 2)])
        self.check(loose, stretches, slow_narrow(slow_first(loose, stretches), triples_of(15)))


class Judging(unittest.TestCase):
    BOOK = with_stretches(6, THREE, [((), (1, 2)), ((), (3, 4))])
    TABLE = narrow_table(BOOK, THREE)

    def check(self, value, fault, table=TABLE, book=BOOK, stretches=THREE):
        with self.subTest(value=value, table=table):
            self.assertEqual(judge_narrowing(book, stretches, table, value), fault)
            self.assertEqual(judge_narrowing(book, list(stretches), table, value), fault)

    def test_right_ones_that_are_not_told_here(self):
        self.check(narrowing_paper(self.BOOK, THREE), None)
        for value in (((2, 1, 0), (0, 1, 2)), ((0, 1, 2), (2, 1, 0)), tuple(triples_of(3)), tuple(triples_of(3)) * 3,
                      ((0, 1, 2), (0, 1, 2), (1, 0, 2), (2, 1, 0))):
            self.check(value, None)
        self.check((), None, first_table(SIX, THREE), SIX)
        self.check(((1, 0, 2),), None, first_table(SIX, THREE), SIX)
        self.check((), None, (((0,),),), SIX, THREE[:1])
        self.check((), None, (((0,), (2,)), ((8,), (0,))), SIX, (THREE[0], THREE[2]))

    def test_form(self):
        for value in (*JUNK, [(0, 1, 2)], ((0, 1, 2), None), ((0, 1),), ((0, 1, 2, 0),), ([0, 1, 2],), ((0, 1, 3),),
                      ((-1, 0, 1),), ((0, 1, True),), ((False, 1, 2),), ((0, 1, 1),), ((0, 0, 1),), ((1, 0, 1),),
                      ((0, 1, "2"),), ((0, 1, (2,)),), ((0, 1, 10 ** 39),), (0, 1, 2), {(0, 1, 2): 0}, ((0, 1, None),),
                      nested(40, "tuple")):
            self.check(value, ("form",))
            if type(value) is tuple:
                self.check(((0, 1, 2), (2, 1, 0), *value), ("form",))
        # With one or two stretches there are no such triples.
        for value in (((0, 0, 0),), ((0, 1, 0),), ((0, 1, 2),)):
            self.check(value, ("form",), (((0,),),), SIX, THREE[:1])
            self.check(value, ("form",), (((0,), (2,)), ((8,), (0,))), SIX, (THREE[0], THREE[2]))

    def test_table(self):
        self.check((), ("table", 0, 2))
        self.check(((0, 1, 2),), ("table", 2, 0))
        self.check(((2, 1, 0),), ("table", 0, 2))
        self.check(((1, 0, 2),), ("table", 0, 2))
        right = ((0, 1, 2), (2, 1, 0))
        for s, t in itertools.product(range(3), repeat=2):
            for lot in ((), (1,), ALL, (0, 3)):
                self.check(right, ("table", s, t), put(self.TABLE, (s, t), lot))
        both = put(put(self.TABLE, (1, 2), ()), (2, 0), ())
        self.check(right, ("table", 1, 2), both)
        self.check(right, ("table", 1, 1), put(both, (1, 1), (0, 1)))
        self.check(right, ("table", 0, 1), put(both, (0, 1), (3,)))

    def test_left(self):
        first = first_table(self.BOOK, THREE)
        self.check((), ("left", 0, 1, 2), first)
        self.check(((2, 1, 0),), ("left", 0, 1, 2), put(first, (2, 0), (12,)))
        self.check(((0, 1, 2),), ("left", 2, 1, 0), put(first, (0, 2), (3,)))
        self.check(((0, 2, 1), (1, 0, 2)), ("left", 0, 1, 2), first)
        # The third stretch counts behind the second one.
        book = with_stretches(8, (*THREE, (6, 7)), [((), (1, 6)), ((), (7, 4)), ((), (1, 2))])
        four = (*THREE, (6, 7))
        self.check((), ("left", 0, 3, 2), first_table(book, four), book, four)

    def test_of_two_faults_the_first(self):
        first = first_table(self.BOOK, THREE)
        self.check(((0, 1, 2), (0, 0, 1)), ("form",), first)
        self.check(((0, 1, 2),), ("table", 0, 2), first)
        self.check((), ("table", 1, 0), put(first, (1, 0), ()))

    def test_many(self):
        rng = random.Random(74)
        for book, stretches in BOOKS:
            triples = triples_of(len(stretches))
            value = tuple(rng.choice(triples) for _ in range(rng.randint(0, 6))) if triples else ()
            table = slow_first(book, stretches)
            for triple in value:
                table = slow_narrowed(table, *triple)
            left = [triple for triple in triples if slow_narrowed(table, *triple) != table]
            self.check(value, ("left", *left[0]) if left else None, table, book, stretches)
            self.assertEqual(not left, table == narrow_table(book, stretches))

    def test_each_part_exchanged(self):
        value = ((0, 1, 2), (2, 1, 0))
        for path in paths(value):
            for new in (*JUNK, 0, 1, 2, 3, (0, 1, 2), (1, 2, 0)):
                changed = put(value, path, new)
                right = type(changed) is tuple and all(
                    type(one) is tuple and len(one) == 3 and {type(k) for k in one} == {int} and
                    sorted(one) == [0, 1, 2] for one in changed)
                fault = judge_narrowing(self.BOOK, THREE, self.TABLE, changed)
                self.assertEqual(fault == ("form",), not right, changed)

    def test_many_triples(self):
        self.check(((0, 1, 2), (2, 1, 0)) * 5000, None)

    def test_what_was_passed_is_as_it_was(self):
        value = ((0, 1, 2), [2, {"a": [1]}])
        for _ in range(2):
            self.check(value, ("form",))
        self.assertEqual(value, ((0, 1, 2), [2, {"a": [1]}]))


if __name__ == "__main__":
    unittest.main()
