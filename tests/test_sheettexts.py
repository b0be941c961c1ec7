import unittest

import grammar
from soonerornot.errors import BadText, BadTree
from soonerornot.sheets import check_sheet
from soonerornot.sheettexts import line_text, read_line, read_sheet, read_term, sheet_text, term_text
from trees import path_of

A, B, C = ("at", "a"), ("at", "b"), ("at", "c")
BS, ES, BT = ("begin", "s"), ("end", "s"), ("begin", "t")
SIGNS, WAYS, FIVE = grammar.SIGNS, grammar.WAYS, grammar.FIVE

LINES = (
    ("x", ((A, B), (BS, C)), ("<", ES, A)),
    ("y", (), ("before", "s", "t")),
    ("z", (), ("never",)),
    ("x1", ((BT, A),), ("never",)),
    ("y1", ((A, A),), ("/=", A, BS)),
    ("say", ((A, B), (B, A), (ES, ES)), ("same", "s", "s")),
)
SHEET = (("a", "b", "c"), ("s", "t"), LINES)
WRITTEN = """sheet {
moments a b c;
stretches s t;
say x if a = b, begin s = c then end s < a;
say y s before t;
say z never;
say x1 if begin t = a then never;
say y1 if a = a then a /= begin s;
say say if a = b, b = a, end s = end s then s same s;
}
"""


def place_of(read, text):
    """Return the place at which a text is refused, or None, also if it tells no sheet."""
    try:
        read(text)
    except BadText as error:
        return error.place
    except BadTree:
        return None
    return None


class Written(unittest.TestCase):
    def test_terms(self):
        self.assertEqual(term_text(A), "a")
        self.assertEqual(term_text(BS), "begin s")
        self.assertEqual(term_text(ES), "end s")
        self.assertEqual(term_text(("at", "at")), "at")

    def test_lines(self):
        for line, text in zip(LINES, WRITTEN.split("\n")[3:]):
            self.assertEqual(line_text(line), text)
        for sign in SIGNS:
            self.assertEqual(line_text(("x", (), (sign, A, ES))), f"say x a {sign} end s;")
        for way in WAYS:
            self.assertEqual(line_text(("x", ((A, B),), (way, "t", "s"))), f"say x if a = b then t {way} s;")

    def test_sheets(self):
        self.assertEqual(sheet_text(SHEET), WRITTEN)
        self.assertEqual(sheet_text(((), (), ())), "sheet {\nmoments;\nstretches;\n}\n")
        self.assertEqual(sheet_text((("a", "b"), (), ())), "sheet {\nmoments a b;\nstretches;\n}\n")
        self.assertEqual(sheet_text(((), ("s",), ())), "sheet {\nmoments;\nstretches s;\n}\n")


class ThereAndBack(unittest.TestCase):
    def test_terms(self):
        for term in (A, BS, ES, ("at", "at"), ("begin", "abcdefghijkl"), ("end", "say")):
            self.assertEqual(read_term(term_text(term)), term)

    def test_lines(self):
        heads = [("never",), *((sign, one, other) for sign in SIGNS for one in (A, BS, ES) for other in (A, BS, ES)),
                 *((way, one, other) for way in WAYS for one in ("s", "same") for other in ("t", "after"))]
        for ties in ((), ((A, B),), ((BS, A), (A, BS), (ES, ES))):
            for head in heads:
                line = ("x", ties, head)
                self.assertEqual(read_line(line_text(line)), line)
                self.assertEqual(read_line(line_text(line)), line)

    def test_sheets(self):
        words = ("at", "say", "sheet", "moments", "stretches", *WAYS)
        for sheet in (SHEET, ((), (), ()), (("a",), (), ()), ((), ("s",), ()),
                      (("b", "a"), ("t",), (("x", (), ("never",)),)),
                      (words, ("s",), tuple((word, (), ("<=", ("at", word), BS)) for word in words))):
            check_sheet(sheet)
            self.assertEqual(read_sheet(sheet_text(sheet)), sheet)
            self.assertEqual(sheet_text(read_sheet(sheet_text(sheet))), sheet_text(sheet))

    def test_great_sheets(self):
        names = tuple(f"m{k}" for k in range(20))
        stretches = tuple(f"s{k}" for k in range(10))
        ties = tuple((("at", f"m{k}"), ("end", f"s{k}")) for k in range(6))
        lines = tuple((f"line{k}", ties, ("overlapped", "s1", "s2")) for k in range(200))
        sheet = (names, stretches, lines)
        self.assertEqual(read_sheet(sheet_text(sheet)), sheet)


class Told(unittest.TestCase):
    def test_terms(self):
        self.assertEqual(read_term("a"), A)
        self.assertEqual(read_term(" \n begin\ns "), BS)
        self.assertEqual(read_term("end s\n"), ES)
        self.assertEqual(read_term("same"), ("at", "same"))
        self.assertEqual(read_term("say"), ("at", "say"))
        self.assertEqual(read_term("at"), ("at", "at"))

    def test_lines(self):
        self.assertEqual(read_line("say x a<=b;"), ("x", (), ("<=", A, B)))
        self.assertEqual(read_line("say\nx s\nbefore t ; "), ("x", (), ("before", "s", "t")))
        self.assertEqual(read_line("say x s = t;"), ("x", (), ("=", ("at", "s"), ("at", "t"))))
        self.assertEqual(read_line("say x if s=t,begin s=s then a same a;"),
                         ("x", ((("at", "s"), ("at", "t")), (BS, ("at", "s"))), ("same", "a", "a")))
        self.assertEqual(read_line("say x same same same;"), ("x", (), ("same", "same", "same")))
        self.assertEqual(read_line("say x after < met;"), ("x", (), ("<", ("at", "after"), ("at", "met"))))

    def test_sheets_in_other_writing(self):
        self.assertEqual(read_sheet(WRITTEN.replace("\n", " ")), SHEET)
        self.assertEqual(read_sheet(WRITTEN.replace(" ", "\n")), SHEET)
        self.assertEqual(read_sheet("  " + WRITTEN.replace(";", " ;\n\n ").replace(", ", ",")), SHEET)

    def test_a_text_that_tells_no_sheet(self):
        for text, path in (
            ("sheet { moments a a; stretches; }", (0, 1)),
            ("sheet { moments a; stretches s a; }", (1, 1)),
            ("sheet { moments a; stretches; say x never; say x never; }", (2, 1, 0)),
            ("sheet { moments a; stretches; say x a < b; }", (2, 0, 2, 2, 1)),
            ("sheet { moments a; stretches s; say x a < s; }", (2, 0, 2, 2, 1)),
            ("sheet { moments a; stretches; say x begin a < a; }", (2, 0, 2, 1, 1)),
            ("sheet { moments a; stretches s; say x if a = a, end t = a then never; }", (2, 0, 1, 1, 0, 1)),
            ("sheet { moments a; stretches s; say x s meets a; }", (2, 0, 2, 2)),
            ("sheet { moments a; stretches s; say x t meets a; }", (2, 0, 2, 1)),
            ("sheet { moments a a; stretches s a; say x t meets a; }", (0, 1)),
        ):
            with self.subTest(text=text):
                self.assertEqual(path_of(read_sheet, text), path)
                self.assertEqual(path_of(read_sheet, text), path)

    def test_a_wrong_text_is_refused_ahead_of_what_it_tells(self):
        for text, place in (("sheet { moments a a; stretches; ", 32), ("sheet { moments a a; stretches; } ?", 34),
                            ("sheet { moments a a; stretches; } }", 34)):
            self.assertEqual(place_of(read_sheet, text), place)
            with self.assertRaises(BadText):
                read_sheet(text)


class WrongPlaces(unittest.TestCase):
    def check(self, read, text, place):
        with self.subTest(read=read.__name__, text=text):
            self.assertEqual(place_of(read, text), place)

    def test_examples(self):
        self.check(read_sheet, "sheet { }", 8)
        head = "say x "
        for text, place in (("a", 1), ("a b", 2), ("begin <= a", 6), ("a < > b", 4)):
            self.check(read_line, head + text, len(head) + place)

    def test_texts_of_only_blanks(self):
        for text in ("", " ", "\n", "  \n ", " " * 1000):
            for read in (read_sheet, read_line, read_term):
                self.check(read, text, len(text))

    def test_terms(self):
        for text, place in (("begin", 5), ("end ", 4), ("begin\n\n", 7), ("a b", 2), ("a;", 1), ("if", 0), ("never", 0),
                            ("then", 0), ("begin begin", 6), ("end if", 4), ("begin s t", 8), ("<", 0), ("begin <", 6),
                            ("?", 0), ("a ?", 2), ("begin ?", 6), ("a b ?", 2), ("a\t", 1), ("abcdefghijklm", 0)):
            self.check(read_term, text, place)
        for word in FIVE:
            self.check(read_term, f"begin {word}", 6)

    def test_lines(self):
        for text, place in (("say", 3), ("say x", 5), ("say x;", 5), ("say if never;", 4), ("say x never", 11),
                            ("say x never; ", None), ("say x never; x", 13), ("say x never;;", 12), ("sag x never;", 0),
                            ("say x if then never;", 9), ("say x if a = b never;", 15), ("say x if a < b", 11),
                            ("say x if a = b, then", 16), ("say x if a = b,", 15), ("say x a = b, c = d", 11),
                            ("say x a before begin s;", 15), ("say x begin s before t;", 14), ("say x a = b", 11),
                            ("say x a before if;", 15), ("say x never never;", 12), ("say x then never;", 6),
                            ("say x a during b;", 8), ("say x a <== b;", 10), ("say x if s before t", 11),
                            ("say x if never then never;", 9), ("say x if a = b then if", 20), ("say <", 4)):
            self.check(read_line, text, place)

    def test_sheets(self):
        for text, place in (("sheet", 5), ("sheet {", 7), ("sheets {", 0), ("sheet { moments", 15),
                            ("sheet { moments }", 16), ("sheet { moments a begin;", 18), ("sheet { moments ; }", 18),
                            ("sheet { moments; stretches", 26), ("sheet { moments; stretches s }", 29),
                            ("sheet { moments; stretches; ", 28), ("sheet { moments; stretches; } ", None),
                            ("sheet { moments; stretches; x", 28), ("sheet { moments; stretches; say", 31),
                            ("sheet { moments; stretches; say x never; ; }", 41), ("sheet {moments;stretches;}}", 26)):
            self.check(read_sheet, text, place)

    def test_wrong_lexemes_and_wrong_characters(self):
        self.check(read_line, "say x x ? never;", 8)
        self.check(read_line, "say x if ? never;", 9)
        self.check(read_line, "say x a a ? never;", 8)
        self.check(read_line, "say x ? a a never;", 6)
        self.check(read_line, "say x never; ?", 13)
        self.check(read_line, "say x never ?", 12)
        self.check(read_line, "? say", 0)
        self.check(read_line, "say x never; say ?", 13)
        self.check(read_line, "say 1", 4)
        self.check(read_line, "say x a / b;", 8)
        self.check(read_line, "say x a < abcdefghijklm;", 10)
        self.check(read_line, "say abcdefghijklm < ;", 4)

    def test_against_another_reader(self):
        others = (*FIVE, *SIGNS, "say", "x", "before", "sheet", "{", "}", ";", ",", "?", "\t", "1", "/", "abcdefghijklm")
        texts = {
            read_term: (grammar.TERM, ("a", "begin s", "end s")),
            read_line: (grammar.LINE, [*WRITTEN.split("\n")[3:-2], "say x begin s <= end t;"]),
            read_sheet: (grammar.SHEET, (WRITTEN, "sheet { moments; stretches; }", "sheet {moments a;stretches s;}")),
        }
        for read, (form, bases) in texts.items():
            for base in bases:
                self.assertIsNone(grammar.first_wrong(form, base))
                for text in (base, *grammar.changed(base, others)):
                    if place_of(read, text) != grammar.first_wrong(form, text):
                        self.check(read, text, grammar.first_wrong(form, text))

    def test_great_texts(self):
        start = "sheet { moments; stretches; "
        many = start + "say x never; " * 15000
        self.assertEqual(place_of(read_sheet, many), len(many))
        self.assertEqual(path_of(read_sheet, many + "}"), (2, 1, 0))
        names = "sheet { moments " + "a " * 90000
        self.assertEqual(place_of(read_sheet, names + "if"), len(names))
        ties = "say x if a = b" + ", a = b" * 25000
        self.assertEqual(len(read_line(ties + " then never;")[1]), 25001)
        self.assertEqual(place_of(read_line, ties + ";"), len(ties))


if __name__ == "__main__":
    unittest.main()
