import unittest

from soonerornot.books import check_book, check_order, check_placing, check_saying
from trees import JUNK, NO_TUPLES, nested, part, path_of, paths, put

SAYING = (((0, 1), (0, 3), (2, 3)), (3, 1))
BOOK = (4, (((), None), SAYING, ((), (1, 0)), (((1, 2),), None), SAYING))


class Sayings(unittest.TestCase):
    def check(self, n, value, path):
        with self.subTest(n=n, value=value):
            self.assertEqual(path_of(check_saying, n, value), path)

    def test_right_ones(self):
        for n, value in ((0, ((), None)), (1, ((), None)), (2, ((), (1, 0))), (2, (((0, 1),), (0, 1))), (4, SAYING),
                         (3, (((0, 1), (0, 2), (1, 2)), None)), (40, (((38, 39),), (39, 0)))):
            self.check(n, value, None)

    def test_wrong_itself(self):
        for value in (None, 5, True, "ab", [], {}, (), ((),), ((), None, None), [(), None], [[], None]):
            self.check(4, value, ())

    def test_ties_that_are_no_tuple(self):
        for ties in (None, 0, "", [], [(0, 1)], {}, {(0, 1): True}):
            self.check(4, (ties, None), (0,))

    def test_ties_that_are_no_pairs(self):
        for tie in (None, 3, "ab", (), (0,), (0, 1, 2), [0, 1], {0: 1}):
            self.check(4, ((tie,), None), (0, 0))
            self.check(4, (((0, 1), tie), None), (0, 1))

    def test_moments_of_ties(self):
        for wrong in (-1, 4, 10 ** 39, True, False, None, "0", (0,), [0], {}):
            self.check(4, (((wrong, 3),), None), (0, 0, 0))
            self.check(4, (((0, wrong),), None), (0, 0, 1))
            self.check(4, (((0, 1), (0, wrong)), None), (0, 1, 1))
        self.check(4, (((3, 4),), None), (0, 0, 1))
        self.check(0, (((0, 1),), None), (0, 0, 0))
        self.check(1, (((0, 1),), None), (0, 0, 1))

    def test_the_second_moment_of_a_tie_is_greater(self):
        self.check(4, (((1, 1),), None), (0, 0, 1))
        self.check(4, (((2, 1),), None), (0, 0, 1))
        self.check(4, (((0, 3), (3, 0)), None), (0, 1, 1))

    def test_ties_ascend_each_once(self):
        self.check(4, (((0, 1), (0, 1)), None), (0, 1))
        self.check(4, (((0, 2), (0, 1)), None), (0, 1))
        self.check(4, (((1, 2), (0, 3)), None), (0, 1))
        self.check(4, (((0, 1), (2, 3), (1, 3)), None), (0, 2))
        self.check(4, (((0, 1), (0, 1), (5, 0)), None), (0, 1))
        self.check(4, (((0, 2), (0, 1, 2)), None), (0, 1))

    def test_members_of_a_tie_come_ahead_of_its_place_among_the_others(self):
        self.check(4, (((2, 3), (0, 9)), None), (0, 1, 1))
        self.check(4, (((2, 3), (0, 0)), None), (0, 1, 1))
        self.check(4, (((2, 3), (0, 1)), None), (0, 1))

    def test_heads(self):
        for head in (0, True, False, "", "ab", (), (0,), (0, 1, 2), [0, 1], {}, {0: 1}):
            self.check(4, ((), head), (1,))
        for wrong in (-1, 4, True, False, None, "0", (0,), [0], {}):
            self.check(4, ((), (wrong, 3)), (1, 0))
            self.check(4, ((), (3, wrong)), (1, 1))
        self.check(4, ((), (2, 2)), (1, 1))
        self.check(1, ((), (0, 0)), (1, 1))
        self.check(0, ((), (0, 1)), (1, 0))

    def test_the_first_of_two_wrong_parts(self):
        self.check(4, ([], (2, 2)), (0,))
        self.check(4, (((0, 1), (9, 2)), (2, 2)), (0, 1, 0))
        self.check(4, (((0, 1), (0, 1)), 7), (0, 1))
        self.check(4, (((9, 9),), None), (0, 0, 0))
        self.check(4, ((), (9, 9)), (1, 0))


class Books(unittest.TestCase):
    def check(self, value, path):
        with self.subTest(value=value):
            self.assertEqual(path_of(check_book, value), path)

    def test_right_ones(self):
        for value in ((0, ()), (0, (((), None),)), (3, ()), BOOK, (10 ** 30, ()), (2, (((), None),) * 2000)):
            self.check(value, None)

    def test_wrong_itself(self):
        for value in (None, 0, True, "ab", [0, ()], {}, (), (0,), (0, (), ())):
            self.check(value, ())

    def test_wrong_members(self):
        for n in (-1, True, False, None, "3", (3,), [3], {}):
            self.check((n, ()), (0,))
        for sayings in (None, 0, "", [], [((), None)], {}):
            self.check((4, sayings), (1,))

    def test_wrong_sayings(self):
        good = ((), None)
        self.check((4, (good, good, [(), None])), (1, 2))
        self.check((4, (good, (((0, 4),), None))), (1, 1, 0, 0, 1))
        self.check((4, (good, (((0, 2), (0, 1)), None))), (1, 1, 0, 1))
        self.check((4, ([], good)), (1, 0))
        self.check((1, (good, ((), (0, 1)))), (1, 1, 1, 1))
        self.check((0, (((), (0, 1)),)), (1, 0, 1, 0))

    def test_the_first_of_two_wrong_parts(self):
        self.check((None, None), (0,))
        self.check((-1, ((), (0, 1))), (0,))
        self.check((4, (((), (1, 1)), (((0, 1), (0, 0)), None))), (1, 0, 1, 1))

    def test_junk_anywhere(self):
        for path in paths(BOOK):
            for junk in NO_TUPLES:
                if junk is None and part(BOOK, path[:-1]) in BOOK[1] and path[-1] == 1:
                    continue
                if junk == 10 ** 39 and path == (0,):
                    continue
                self.check(put(BOOK, path, junk), path)

    def test_junk_at_two_places(self):
        places = paths(BOOK)
        for i, first in enumerate(places):
            for second in places[i + 1:]:
                if second[:len(first)] != first:
                    self.check(put(put(BOOK, first, "?"), second, "?"), first)


class Placings(unittest.TestCase):
    def check(self, n, value, path):
        with self.subTest(n=n, value=value):
            self.assertEqual(path_of(check_placing, n, value), path)

    def test_right_ones(self):
        for value in ((), (0,), (-5,), (7, -2, 7, 30), (10 ** 30, -10 ** 30), (0,) * 40):
            self.check(len(value), value, None)

    def test_wrong_itself(self):
        for value in (None, 2, True, "ab", "", [0, 0], [], {}, {0: 0, 1: 0}, (), (0,), (0, 0, 0), ("a",)):
            self.check(2, value, ())
        self.check(0, (0,), ())
        self.check(0, [], ())

    def test_wrong_members(self):
        for wrong in (True, False, None, "0", (0,), [0], {}):
            self.check(3, (wrong, 0, 0), (0,))
            self.check(3, (0, 0, wrong), (2,))
            self.check(3, (0, wrong, wrong), (1,))
            self.check(4, (wrong, 0, 0), ())


class Orders(unittest.TestCase):
    def check(self, n, value, path):
        with self.subTest(n=n, value=value):
            self.assertEqual(path_of(check_order, n, value), path)

    def test_right_ones(self):
        for value in ((), (0,), (0, 0), (0, 1), (1, 0), (1, 0, 1, 2), (0,) * 40, tuple(range(40))):
            self.check(len(value), value, None)

    def test_wrong_itself(self):
        for value in (None, True, "ab", [0, 1], {}, (), (0,), (0, 1, 2)):
            self.check(2, value, ())
        for value in ((1, 1), (0, 2), (2, 0), (-1, 0), (0, -1), (1, 2), (-1, -1), (0, 10 ** 30)):
            self.check(2, value, ())
        self.check(1, (1,), ())
        self.check(1, (-1,), ())
        self.check(4, (0, 1, 3, 1), ())

    def test_wrong_members_come_ahead_of_left_out_numbers(self):
        for wrong in (True, False, None, "0", (0,), [0], {}):
            self.check(3, (5, 0, wrong), (2,))
            self.check(3, (wrong, -1, 9), (0,))
            self.check(2, (0, 1, wrong), ())
        self.check(2, (False, True), (0,))
        self.check(2, (0, True), (1,))


class Whole(unittest.TestCase):
    def test_anything_is_told_about(self):
        for value in (*JUNK, *(nested(depth, sort) for depth in range(41) for sort in ("tuple", "list", "dict"))):
            with self.subTest(value=value):
                self.assertIsNotNone(path_of(check_book, value))
                self.assertIsNotNone(path_of(check_saying, 2, value))
                self.assertIsNotNone(path_of(check_placing, 7, value))
                self.assertIsNotNone(path_of(check_order, 7, value))

    def test_what_was_passed_is_as_it_was_and_the_same_comes_again(self):
        value = (2, (((), None), ([(0, 1)], {"a": [1]})))
        self.assertEqual(path_of(check_book, value), (1, 1, 0))
        self.assertEqual(path_of(check_book, value), (1, 1, 0))
        self.assertEqual(value, (2, (((), None), ([(0, 1)], {"a": [1]}))))


if __name__ == "__main__":
    unittest.main()
