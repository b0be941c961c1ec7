import unittest

from grammar import split
from soonerornot.errors import BadText
from soonerornot.lexemes import lexemes


def place_of(text):
    """Return the place at which a text is refused, or None."""
    try:
        lexemes(text)
    except BadText as error:
        return error.place
    return None


class Lexemes(unittest.TestCase):
    def check(self, text, found):
        with self.subTest(text=text):
            told = lexemes(text)
            self.assertEqual(told, found)
            self.assertIs(type(told), list)
            self.assertTrue(all(type(row) is tuple for row in told))

    def refuse(self, text, place):
        with self.subTest(text=text):
            self.assertEqual(place_of(text), place)

    def test_nothing(self):
        for text in ("", " ", "\n", " \n \n\n  "):
            self.check(text, [])

    def test_words(self):
        for word in ("a", "z", "a1", "z0", "abcdefghijkl", "a12345678901", "if", "never", "sheet", "same"):
            self.check(word, [("word", word, 0)])
            self.check(f" \n{word}\n", [("word", word, 2)])

    def test_each_letter_begins_a_word(self):
        for letter in "abcdefghijklmnopqrstuvwxyz":
            self.check(letter, [("word", letter, 0)])
            self.check(f"{letter}{letter}0 {letter}9", [("word", f"{letter}{letter}0", 0), ("word", f"{letter}9", 4)])

    def test_words_that_are_too_long(self):
        for word in ("abcdefghijklm", "a123456789012", "a" * 13, "a" * 24, "a" * 200000):
            self.refuse(word, 0)
            self.refuse(f"b {word}", 2)
            self.refuse(f"<= {word} ?", 3)

    def test_signs(self):
        for sign in ("{", "}", ";", ",", "<=", "<", "=", "/="):
            self.check(sign, [("sign", sign, 0)])
            self.check(f"a{sign}b", [("word", "a", 0), ("sign", sign, 1), ("word", "b", 1 + len(sign))])

    def test_the_longest_sign_is_taken(self):
        self.check("<==", [("sign", "<=", 0), ("sign", "=", 2)])
        self.check("<<=", [("sign", "<", 0), ("sign", "<=", 1)])
        self.check("=<=", [("sign", "=", 0), ("sign", "<=", 1)])
        self.check("<=<", [("sign", "<=", 0), ("sign", "<", 2)])
        self.check("==", [("sign", "=", 0), ("sign", "=", 1)])
        self.check("< =", [("sign", "<", 0), ("sign", "=", 2)])
        self.check("<\n=", [("sign", "<", 0), ("sign", "=", 2)])
        self.check("/==", [("sign", "/=", 0), ("sign", "=", 2)])
        self.check("</=", [("sign", "<", 0), ("sign", "/=", 1)])
        self.check("};,{", [("sign", "}", 0), ("sign", ";", 1), ("sign", ",", 2), ("sign", "{", 3)])

    def test_a_slash_alone(self):
        for text, place in (("/", 0), ("/ =", 0), ("a/", 1), ("a /\n=", 2), ("//=", 0), ("=/", 1), ("/<=", 0)):
            self.refuse(text, place)

    def test_digits_first(self):
        for text, place in (("0", 0), ("9a", 0), ("a 1", 2), ("<1", 1), (";7b", 1), ("a;0", 2)):
            self.refuse(text, place)
        self.check("a1b2", [("word", "a1b2", 0)])

    def test_other_characters(self):
        for code in [9, 13, *range(32, 127)]:
            sign = chr(code)
            if sign in "abcdefghijklmnopqrstuvwxyz{};,<= ":
                self.assertIsNone(place_of(sign))
            else:
                self.refuse(sign, 0)
                self.refuse(f"a {sign} b", 2)
        self.refuse("aB", 1)
        self.refuse("a_b", 1)
        self.refuse("a\tb", 1)
        self.refuse("a > b", 2)

    def test_the_first_of_several(self):
        self.refuse("a ? abcdefghijklm", 2)
        self.refuse("abcdefghijklm ?", 0)

    def test_blanks_and_line_feeds_anywhere(self):
        self.check("say x if a=b,begin s = c then\nend s<a;", [
            ("word", "say", 0), ("word", "x", 4), ("word", "if", 6), ("word", "a", 9), ("sign", "=", 10),
            ("word", "b", 11), ("sign", ",", 12), ("word", "begin", 13), ("word", "s", 19), ("sign", "=", 21),
            ("word", "c", 23), ("word", "then", 25), ("word", "end", 30), ("word", "s", 34), ("sign", "<", 35),
            ("word", "a", 36), ("sign", ";", 37)])
        self.check("\n\n{\n \n}", [("sign", "{", 2), ("sign", "}", 6)])

    def test_against_another_reader(self):
        pieces = ("a", "b1", "abcdefghijkl", "abcdefghijklm", "<", "=", "/", "/=", "<=", "{", ";", " ", "\n", "1", "\t")
        for first in pieces:
            for second in pieces:
                for third in pieces:
                    text = first + second + third
                    found, wrong = split(text)
                    self.assertEqual(place_of(text), wrong)
                    if wrong is None:
                        self.assertEqual([row[1:] for row in lexemes(text)], found)

    def test_great_texts(self):
        self.assertEqual(len(lexemes("a" * 12 + (" " + "b" * 12) * 15000)), 15001)
        self.assertEqual(len(lexemes("<=" * 100000)), 100000)
        self.assertEqual(lexemes(" " * 199999 + "a"), [("word", "a", 199999)])

    def test_each_call_gives_a_new_list(self):
        first = lexemes("a <= b")
        first.append(1)
        self.assertEqual(lexemes("a <= b"), first[:-1])


if __name__ == "__main__":
    unittest.main()
