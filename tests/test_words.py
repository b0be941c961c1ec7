import unittest

from soonerornot.words import is_integer, is_name, is_number

NO_STRINGS = (None, True, False, 0, 1, -1, 10 ** 39, (), ("a",), [], ["a"], {}, {"a": 1}, ((("a",),),))


class Names(unittest.TestCase):
    def test_names(self):
        for value in ("a", "z", "a1", "z9", "a0b", "abcdefghijkl", "a12345678901", "if", "never", "zz"):
            with self.subTest(value=value):
                self.assertIs(is_name(value), True)

    def test_strings_that_are_no_names(self):
        for value in ("", "abcdefghijklm", "a123456789012", "0", "1a", "9", "A", "aB", "Ab", "a b", " a", "a ",
                      "a\n", "\ta", "a_b", "a-b", "_", "{", "<=", "a{", "`a", "a`", "a/", "a:", "@", "\xe9", "a\xb2",
                      "\u0661", "a\u0661", "a" * 1000):
            with self.subTest(value=value):
                self.assertIs(is_name(value), False)

    def test_each_letter_and_digit(self):
        letters = "abcdefghijklmnopqrstuvwxyz"
        for code in range(128):
            sign = chr(code)
            with self.subTest(sign=sign):
                self.assertIs(is_name(sign), sign in letters)
                self.assertIs(is_name("a" + sign), sign in letters or sign in "0123456789")
                self.assertIs(is_name("ab" + sign + "c"), sign in letters or sign in "0123456789")

    def test_what_is_no_string(self):
        for value in NO_STRINGS:
            with self.subTest(value=value):
                self.assertIs(is_name(value), False)


class Numbers(unittest.TestCase):
    def test_integers(self):
        for value in (0, 1, 7, 10 ** 40 - 1):
            with self.subTest(value=value):
                self.assertIs(is_integer(value), True)
                self.assertIs(is_number(value), True)

    def test_integers_below_zero_are_no_numbers(self):
        for value in (-1, -2, 1 - 10 ** 40):
            with self.subTest(value=value):
                self.assertIs(is_integer(value), True)
                self.assertIs(is_number(value), False)

    def test_what_is_no_integer(self):
        for value in (True, False, None, "", "1", "a", (), (1,), [], [1], {}, {1: 2}):
            with self.subTest(value=value):
                self.assertIs(is_integer(value), False)
                self.assertIs(is_number(value), False)


if __name__ == "__main__":
    unittest.main()
