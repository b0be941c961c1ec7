import unittest

from soonerornot.errors import UnknownName
from soonerornot.sheets import check_sheet, line_named, moments_of, number_of, stretch_ends
from trees import JUNK, NO_TUPLES, nested, path_of, paths, put

A, B = ("at", "a"), ("at", "b")
BEGIN, END = ("begin", "s"), ("end", "t")
SHEET = (("a", "b"), ("s", "t"), (
    ("x", (), ("never",)),
    ("y", ((A, BEGIN), (END, B)), ("<=", A, END)),
    ("z", (), ("before", "s", "t")),
))
EMPTY = ((), (), ())
FIVE = ("if", "then", "never", "begin", "end")
SIGNS = ("<=", "<", "=", "/=")
WAYS = ("same", "starts", "meets", "before", "started", "ended", "overlaps",
        "holds", "met", "ends", "within", "overlapped", "after")
NO_NAMES = (None, True, False, 0, 1, "", "A", "1a", "a b", "abcdefghijklm", "a_b", (), ("a",), [], ["a"], {}, {"a": 1})


def with_lines(*lines):
    return (("a", "b"), ("s", "t"), lines)


def with_head(head):
    return with_lines(("x", (), head))


def with_ties(ties):
    return with_lines(("x", ties, ("never",)))


def word_of(path):
    """Tell whether a path leads to the word of a term or of the head of a line."""
    return len(path) > 3 and path[0] == 2 and path[-1] == 0 and (path[2] == 2 or len(path) == 6)


class Sheets(unittest.TestCase):
    def check(self, value, path):
        with self.subTest(value=value):
            self.assertEqual(path_of(check_sheet, value), path)

    def test_right_ones(self):
        for value in (EMPTY, SHEET, (("a",), (), ()), ((), ("s",), ()), ((), (), (("x", (), ("never",)),)),
                      with_ties(((A, A), (A, B), (A, B), (B, A), (BEGIN, BEGIN)))):
            self.check(value, None)
        for sign in SIGNS:
            self.check(with_head((sign, A, B)), None)
            self.check(with_head((sign, A, A)), None)
            self.check(with_head((sign, ("end", "s"), ("begin", "s"))), None)
        for way in WAYS:
            self.check(with_head((way, "s", "t")), None)
            self.check(with_head((way, "s", "s")), None)

    def test_other_words_are_names(self):
        words = ("say", "sheet", "moments", "stretches", "at", *WAYS)
        self.check((words, ("s",), tuple((word, (), ("never",)) for word in words)), None)

    def test_a_line_may_have_the_name_of_a_moment_or_a_stretch(self):
        self.check(with_lines(("a", (), ("never",)), ("s", (), ("never",))), None)

    def test_names_of_twelve_characters(self):
        long = "abcdefghijkl"
        self.check(((long,), (), ((long, (), ("<", ("at", long), ("at", long))),)), None)

    def test_wrong_itself(self):
        for value in (None, 0, True, "abc", [], [(), (), ()], {}, (), ((),), ((), ()), ((), (), (), ())):
            self.check(value, ())

    def test_wrong_members(self):
        for part in (None, 0, True, "", "a", [], ["a"], {}):
            for k in range(3):
                self.check(put(SHEET, (k,), part), (k,))

    def test_names_of_moments_and_stretches(self):
        for name in (*NO_NAMES, *FIVE):
            self.check(((name,), (), ()), (0, 0))
            self.check((("a", name), (), ()), (0, 1))
            self.check((("a",), ("s", name, "t"), ()), (1, 1))

    def test_names_that_come_twice(self):
        self.check((("a", "a"), (), ()), (0, 1))
        self.check((("a", "b", "c", "b", "a"), (), ()), (0, 3))
        self.check((("a",), ("s", "s"), ()), (1, 1))
        self.check((("a", "b"), ("s", "b", "s"), ()), (1, 1))

    def test_lines_that_are_no_triples(self):
        good = ("x", (), ("never",))
        for line in (None, 3, "xyz", [], list(good), {}, (), ("x",), ("x", ()), (*good, ())):
            self.check(with_lines(line), (2, 0))
            self.check(with_lines(good, line), (2, 1))

    def test_names_of_lines(self):
        for name in (*NO_NAMES, *FIVE):
            self.check(with_lines((name, (), ("never",))), (2, 0, 0))
        x, y = ("x", (), ("never",)), ("y", (), ("never",))
        self.check(with_lines(x, y, x), (2, 2, 0))
        self.check(with_lines(x, ("x", None, None)), (2, 1, 0))

    def test_ties(self):
        for ties in (None, 0, "", [], [(A, B)], {}):
            self.check(with_ties(ties), (2, 0, 1))
        for tie in (None, 0, "ab", (), (A,), (A, B, A), [A, B], {}):
            self.check(with_ties((tie,)), (2, 0, 1, 0))
            self.check(with_ties(((A, B), tie)), (2, 0, 1, 1))

    def test_terms(self):
        wrong = (None, 0, True, "a", [], ["at", "a"], {}, (), ("at",), ("at", "a", "a"), ("begin", "s", "t"),
                 ("a", "at"), ("At", "a"), ("never", "a"), ("if", "a"), (None, "a"), (0, "a"), ([], "a"),
                 (("at", "a"),), (("at", "a"), "a"), ("<=", "a"), ("same", "s"), ("", "a"))
        for term in wrong:
            self.check(with_ties(((term, B),)), (2, 0, 1, 0, 0))
            self.check(with_ties(((A, B), (A, term))), (2, 0, 1, 1, 1))
            self.check(with_head(("<=", term, B)), (2, 0, 2, 1))
            self.check(with_head(("/=", A, term)), (2, 0, 2, 2))

    def test_names_in_terms(self):
        for word, other in (("at", "s"), ("begin", "a"), ("end", "b")):
            for name in (*NO_NAMES, *FIVE, other, "x", "zz"):
                term = (word, name)
                self.check(with_ties(((term, B),)), (2, 0, 1, 0, 0, 1))
                self.check(with_ties(((A, B), (A, term))), (2, 0, 1, 1, 1, 1))
                self.check(with_head(("<", term, B)), (2, 0, 2, 1, 1))
                self.check(with_head(("=", A, term)), (2, 0, 2, 2, 1))

    def test_heads(self):
        for head in (None, 0, True, "never", "abc", [], ["never"], {}, (), ("never", "s", "t"), ("never", A),
                     ("Never",), ("if",), ("<=",), ("same",), ("<=", A), ("same", "s"), ("<=", A, B, A),
                     ("same", "s", "t", "s"), (">", A, B), (">=", A, B), ("==", A, B), ("during", "s", "t"),
                     ("at", "a", "b"), (None, A, B), (0, A, B), ([], "s", "t"), (("never",),), ("", A, B)):
            self.check(with_head(head), (2, 0, 2))

    def test_names_of_stretches_in_heads(self):
        for way in WAYS:
            for name in (*NO_NAMES, *FIVE, "a", "x", "zz", BEGIN):
                self.check(with_head((way, name, "t")), (2, 0, 2, 1))
                self.check(with_head((way, "s", name)), (2, 0, 2, 2))

    def test_junk_anywhere(self):
        for path in paths(SHEET):
            for junk in NO_TUPLES:
                self.check(put(SHEET, path, junk), path[:-1] if word_of(path) else path)

    def test_junk_at_two_places(self):
        places = paths(SHEET)
        for i, first in enumerate(places):
            for second in places[i + 1:]:
                if second[:len(first)] != first:
                    self.check(put(put(SHEET, first, "?"), second, "?"), first[:-1] if word_of(first) else first)

    def test_anything_is_told_about(self):
        for value in (*JUNK, *(nested(depth, sort) for depth in range(41) for sort in ("tuple", "list", "dict"))):
            self.assertIsNotNone(path_of(check_sheet, value))
            self.assertIsNotNone(path_of(check_sheet, (value, (), ())))
            self.assertIsNotNone(path_of(check_sheet, with_head(value)))

    def test_what_was_passed_is_as_it_was_and_the_same_comes_again(self):
        value = (("a",), ("s",), (("x", [], {"a": [1]}),))
        self.check(value, (2, 0, 1))
        self.check(value, (2, 0, 1))
        self.assertEqual(value, (("a",), ("s",), (("x", [], {"a": [1]}),)))


class Parts(unittest.TestCase):
    def test_moments_of(self):
        self.assertEqual(moments_of(EMPTY), ())
        self.assertEqual(moments_of(SHEET), (A, B, BEGIN, ("end", "s"), ("begin", "t"), END))
        self.assertEqual(moments_of((("b", "a"), (), ())), (("at", "b"), ("at", "a")))
        self.assertEqual(moments_of(((), ("t", "s"), ())),
                         (("begin", "t"), ("end", "t"), ("begin", "s"), ("end", "s")))
        self.assertIs(type(moments_of(SHEET)), tuple)

    def test_number_of(self):
        for sheet in (SHEET, (("b", "a"), (), ()), ((), ("t", "s"), ())):
            for number, term in enumerate(moments_of(sheet)):
                self.assertEqual(number_of(sheet, term), number)
        self.assertEqual(number_of(SHEET, ("begin", "t")), 4)

    def test_stretch_ends(self):
        self.assertEqual(stretch_ends(SHEET, "s"), (2, 3))
        self.assertEqual(stretch_ends(SHEET, "t"), (4, 5))
        self.assertEqual(stretch_ends(((), ("t", "s"), ()), "s"), (2, 3))

    def test_line_named(self):
        for line in SHEET[2]:
            self.assertEqual(line_named(SHEET, line[0]), line)

    def test_unknown_names(self):
        anything = (*NO_NAMES, *FIVE, *JUNK, "zz", A, ("s",))
        for ask, others in ((stretch_ends, ("a", "b", "x")), (line_named, ("a", "s"))):
            for sheet in (SHEET, EMPTY):
                for name in (*anything, *others):
                    with self.subTest(ask=ask.__name__, name=name):
                        with self.assertRaises(UnknownName) as caught:
                            ask(sheet, name)
                        self.assertIs(caught.exception.name, name)

    def test_the_same_comes_again(self):
        for _ in range(2):
            self.assertEqual(moments_of(SHEET), moments_of(SHEET))
            self.assertEqual(stretch_ends(SHEET, "t"), stretch_ends(SHEET, "t"))


if __name__ == "__main__":
    unittest.main()
