import random
import unittest

from grammar import CONSOLE, FIVE, changed, first_wrong
from soonerornot.console import Console
from soonerornot.desk import Desk
from soonerornot.errors import BadAct, BadAsk, NothingDone
from soonerornot.sheettexts import line_text, sheet_text
from test_desk import EMPTY, NEVER, SHEET, a_line, desk_with, state

# One line of each form, and more where a form can go on in several ways.
RIGHT = ("sheet { moments a b; stretches s; say x if a = begin s, b = end s then never; say y s same s; }",
         "sheet { moments; stretches; }", "say x if a = b then a <= b;", "say y a /= begin s ;",
         "say z s within t;", "say z never;", "moment a;", "stretch s ;", "drop x;", "mark m;", "since m;",
         "undo;", "redo ;", "can;", "placed;", "moments;", "stretches ;", "lines;", "follows if begin a = b, c = end d then s before t;",
         "follows never;", "follows a < b;", "between a b;", "between begin s end s;", "ways s t;")
OTHERS = ("a", "if", "then", "never", "begin", "end", "say", "sheet", "moments", "same", "undo", ";", ",", "{", "}",
          "<", "<=", "=", "/=")


class Answers(unittest.TestCase):
    def tell(self, desk, *pairs):
        console = Console(desk)
        for line, answer in pairs:
            with self.subTest(line=line):
                found = console.answer(line)
                self.assertEqual(found, answer)
                self.assertIs(type(found), str)

    def test_the_acts(self):
        desk = Desk()
        self.tell(desk, ("moment a;", "done"), ("moment b ;", "done"), ("stretch s;", "done"), ("moment a;", "no name"),
                  ("moment s;", "no name"), ("stretch a;", "no name"), ("stretch s;", "no name"))
        self.assertEqual(desk.sheet(), (("a", "b"), ("s",), ()))
        self.tell(desk, ("say x a < begin s;", "done"), ("say x b < begin s;", "done"), ("say y c < a;", "no line"),
                  ("say y s < a;", "no line"), ("say y s same a;", "no line"), ("drop y;", "no name"))
        self.assertEqual(desk.sheet()[2], (("x", (), ("<", ("at", "b"), ("begin", "s"))),))
        self.tell(desk, ("drop x;", "done"), ("drop x;", "no name"))
        self.assertEqual(desk.sheet(), (("a", "b"), ("s",), ()))

    def test_a_sheet(self):
        desk = Desk()
        self.tell(desk, (sheet_text(SHEET), "done"), ("sheet { moments a a; stretches; }", "no sheet"),
                  ("sheet { moments a; stretches; say x a < b; }", "no sheet"))
        self.assertEqual(desk.sheet(), SHEET)
        self.assertEqual(desk.acts(), [("sheet", SHEET)])
        self.tell(desk, ("sheet { moments; stretches; }", "done"))
        self.assertEqual(desk.sheet(), EMPTY)

    def test_thirty_lines(self):
        desk = desk_with((("a", "b"), (), ()))
        self.tell(desk, *((f"say x{k} a <= b;", "done") for k in range(30)), ("say y a <= b;", "no many"),
                  ("say x3 a = b;", "done"), ("say y a <= c;", "no line"), ("drop x0;", "done"),
                  ("say y a <= b;", "done"))
        self.assertEqual(desk.sheet()[2][2], a_line("x3", "="))

    def test_acts_are_told_as_the_document_tells_them(self):
        desk = Desk()
        self.tell(desk, ("moment a;", "done"), ("moment b;", "done"), ("say x a<=b;", "done"), ("drop x;", "done"),
                  ("stretch s;", "done"), ("sheet{moments;stretches;}", "done"), ("undo;", "done"))
        self.assertEqual(desk.acts(), [("moment", "a"), ("moment", "b"), ("say", a_line("x")), ("drop", "x"),
                                       ("stretch", "s")])

    def test_undo_and_redo(self):
        desk = Desk()
        self.tell(desk, ("undo;", "no nothing"), ("redo;", "no nothing"), ("moment a;", "done"), ("undo ;", "done"),
                  ("moments;", ""), ("redo;", "done"), ("moments;", "a"), ("redo;", "no nothing"), ("undo;", "done"),
                  ("undo;", "no nothing"), ("moment if;", "no 7"), ("drop x;", "no name"), ("can;", "yes"),
                  ("mark m;", "done"), ("redo;", "done"), ("undo;", "done"), ("moment a;", "done"),
                  ("redo;", "no nothing"))

    def test_marks(self):
        desk = Desk()
        self.tell(desk, ("since m;", "no mark"), ("mark m;", "done"), ("since m;", "0"), ("moment a;", "done"),
                  ("moment b;", "done"), ("since m;", "2"), ("mark m;", "done"), ("since m;", "0"), ("undo;", "done"),
                  ("undo;", "done"), ("since m;", "-2"), ("since n;", "no mark"), ("mark say;", "done"),
                  ("since say;", "0"))
        self.assertEqual(desk.marks(), ["m", "say"])

    def test_questions(self):
        desk = desk_with(SHEET)
        self.tell(desk, ("can;", "yes"), ("placed;", "0 1 2 3 3 4"), ("follows a < begin s;", "yes"),
                  ("follows a <= b;", "no"), ("follows if a = b then never;", "yes"), ("follows s meets t;", "yes"),
                  ("follows s before t;", "no"), ("follows a < c;", "no line"), ("follows a meets t;", "no line"),
                  ("follows never;", "no"), ("between a b;", "< >"), ("between b begin s;", "< = >"),
                  ("between end s begin t;", "="), ("between a a;", "="), ("between a s;", "no term"),
                  ("between begin a b;", "no term"), ("ways s t;", "meets"), ("ways t s;", "met"),
                  ("ways s s;", "no name"), ("ways s a;", "no name"), ("ways s u;", "no name"), ("moments;", "a b"),
                  ("stretches;", "s t"), ("lines;", "x y z"))
        self.assertEqual(desk.work(), 6)

    def test_one_blank_between_two(self):
        self.tell(desk_with((("a", "b"), ("s", "t"), (("x", (), ("<=", ("end", "s"), ("begin", "t"))),))),
                  ("ways s t;", "meets before"), ("ways t s;", "met after"), ("placed;", "0 1 2 3 4 5"))
        self.tell(desk_with((("a", "b", "c"), (), (a_line("x", "="), a_line("y", "<", "c", "a")))),
                  ("placed;", "1 1 0"), ("between a c;", ">"))
        self.tell(desk_with((("a",), (), ())), ("placed;", "0"))

    def test_the_empty_answer(self):
        self.tell(Desk(), ("placed;", ""), ("moments;", ""), ("stretches;", ""), ("lines;", ""))
        never = (("a",), ("s", "t"), (("x", (), ("never",)),))
        self.tell(desk_with(never), ("between a a;", ""), ("between a begin s;", ""), ("ways s t;", ""))

    def test_a_book_that_cannot_be_kept(self):
        self.tell(desk_with(NEVER), ("can;", "no"), ("placed;", "no never"), ("follows never;", "yes"),
                  ("follows a /= a;", "yes"), ("follows b = a;", "no line"), ("between a a;", ""))

    def test_blanks_and_line_feeds(self):
        self.tell(Desk(), ("\n moment\n\n a\n;\n ", "done"), ("moment\nb;", "done"),
                  ("say x if a=b then a<=b;", "done"), ("  say\ny\na\n/=\nb  ;", "done"), ("\nmoments\n;\n", "a b"), ("between a\n b;", "< >"),
                  ("momenta;", "no 0"), ("moment a\t;", "no 8"), ("\tmoment a;", "no 0"), ("undo;\t", "no 5"))

    def test_names_that_are_words_of_the_forms(self):
        desk = Desk()
        self.tell(desk, ("moment moment;", "done"), ("stretch same;", "done"), ("stretch sheet;", "done"),
                  ("say say same same sheet;", "done"), ("follows same same sheet;", "yes"),
                  ("between moment begin same;", "< = >"), ("ways same sheet;", "same"), ("mark undo;", "done"),
                  ("since undo;", "0"), ("lines;", "say"), ("drop say;", "done"), ("moments;", "moment"))

    def test_long_lines(self):
        names = " ".join(f"a{k}" for k in range(1000))
        desk = Desk()
        self.tell(desk, (f"sheet {{ moments {names}; stretches; }}", "done"), ("moments;", names),
                  (" " * 199_000 + "undo;", "done"), ("undo;" + "\n" * 199_000, "no nothing"),
                  ("a" * 200_000, "no 0"), ("say x if " + "a = b, " * 28_000, f"no {9 + 7 * 28_000}"),
                  ("say x if " + "a = b, " * 28_000 + "a = b then never;", "no line"), ("(" * 200_000, "no 0"))


class WrongLines(unittest.TestCase):
    def answer_to(self, line):
        """Return the answer to a line at a desk to which something was done, which must stay if the line is wrong."""
        desk = desk_with(SHEET)
        desk.do(("moment", "c"))
        desk.mark("m")
        desk.undo()
        before = state(desk)
        answer = Console(desk).answer(line)
        if answer.startswith("no ") and answer[3:].isdigit():
            self.assertEqual(state(desk), before)
            self.assertEqual(desk.redo(), 2)
        return answer

    def check(self, line):
        wrong = first_wrong(CONSOLE, line)
        answer = self.answer_to(line)
        if wrong is None:
            self.assertFalse(answer.startswith("no ") and answer[3:].isdigit(), line)
        else:
            self.assertEqual(answer, f"no {wrong}", line)

    def test_the_examples(self):
        for line, place in (("undo ; redo ;", 7), ("say x ;", 6), ("undo", 4), ("between a ;", 10)):
            self.assertEqual(self.answer_to(line), f"no {place}")
            self.check(line)

    def test_by_hand(self):
        for line, place in (("", 0), ("  \n", 3), (";", 0), ("x", 0), ("x ;", 0), ("moment", 6), ("moment ;", 7),
                            ("moment a", 8), ("moment a b;", 9), ("moment a;;", 9), ("undo a;", 5), ("can;x", 4),
                            ("begin s;", 0), ("if", 0), ("sheet", 5), ("sheet {", 7), ("sheet { moments a; }", 19),
                            ("sheet { moments a; stretches; } ;", 32), ("say", 3), ("say if", 4), ("say x a", 7),
                            ("say x a b", 8), ("say x a before b", 16), ("say x begin a before b;", 14),
                            ("follows", 7), ("follows ;", 8), ("follows x", 9), ("follows x a < b;", 10),
                            ("follows never", 13), ("between begin a;", 15), ("between a b c;", 12),
                            ("ways begin s t;", 5),
                            ("ways s;", 6), ("since 1;", 6), ("mark never;", 5), ("Undo;", 0), ("undo; %", 6),
                            ("undo ?;", 5), ("abcdefghijklm;", 0), ("moment abcdefghijklm;", 7), ("drop x if;", 7)):
            self.assertEqual(self.answer_to(line), f"no {place}", line)
            self.check(line)

    def test_lines_cut_and_changed(self):
        for line in RIGHT:
            self.assertIsNone(first_wrong(CONSOLE, line))
            self.check(line)
            for other in changed(line, OTHERS):
                self.check(other)

    def test_characters_that_begin_no_lexeme(self):
        for line in RIGHT[2:]:
            for place in range(0, len(line) + 1, 2):
                for sign in ("1", "A", "/", "(", "\t", "~", "-", "."):
                    self.check(line[:place] + sign + line[place:])

    def test_names_in_places_of_words(self):
        for line in RIGHT:
            words = line.replace(";", " ;").split()
            for k in range(len(words)):
                for new in ("abc", *FIVE):
                    self.check(" ".join([*words[:k], new, *words[k + 1:]]))

    def test_any_sequence_of_lexemes(self):
        rng = random.Random(171)
        words = [*OTHERS, "undo", "can", "follows", "between", "ways", "mark", "since", "moment", "drop", "b", "s", "$"]
        for _ in range(4000):
            line = rng.choice((" ", "\n", "  ")).join(rng.choice(words) for _ in range(rng.randint(0, 6)))
            self.check(line)


class OneDesk(unittest.TestCase):
    def test_it_works_on_the_very_desk_it_is_made_with(self):
        desk = Desk()
        console = Console(desk)
        desk.do(("moment", "a"))
        self.assertEqual(console.answer("moments;"), "a")
        console.answer("moment b;")
        self.assertEqual(desk.sheet(), (("a", "b"), (), ()))
        other = Console(desk)
        other.answer("undo;")
        self.assertEqual(console.answer("moments;"), "a")
        desk.redo()
        self.assertEqual(console.answer("moments;"), "a b")
        twin = desk.twin()
        console.answer("stretch s;")
        self.assertEqual((twin.sheet()[1], desk.sheet()[1]), ((), ("s",)))

    def test_answers_of_the_desk_by_itself_are_the_same(self):
        rng = random.Random(172)
        names = ("a", "b", "s", "t", "u")
        for _ in range(30):
            desk = Desk()
            console, other = Console(desk), Desk()
            for _ in range(40):
                line, call = self.some_request(rng, names)
                try:
                    told = call(other)
                except (BadAct, BadAsk) as error:
                    told = f"no {error.word}"
                except NothingDone:
                    told = "no nothing"
                self.assertEqual(console.answer(line), told)
                self.assertEqual((desk.sheet(), desk.acts(), desk.work()), (other.sheet(), other.acts(), other.work()))

    def some_request(self, rng, names):
        """Return a line, and a function that asks a desk the same and tells what the answer must be."""
        one, other, name = rng.choice(names), rng.choice(names), rng.choice("xyz")
        sign = rng.choice(("<=", "<", "=", "/="))
        line = rng.choice((a_line(name, sign, one, other), (name, (), ("within", one, other)),
                           (name, ((("at", "a"), ("begin", "s")),), (sign, ("end", one), ("at", other)))))
        text = line_text(line)
        return rng.choice((
            (f"moment {one};", lambda desk: desk.do(("moment", one)) and "done"),
            (f"stretch {one};", lambda desk: desk.do(("stretch", one)) and "done"),
            (text, lambda desk: desk.do(("say", line)) and "done"),
            (f"drop {name};", lambda desk: desk.do(("drop", name)) and "done"),
            ("undo;", lambda desk: desk.undo() is not None and "done"),
            ("redo;", lambda desk: desk.redo() and "done"),
            ("can;", lambda desk: "yes" if desk.can() else "no"),
            ("placed;", lambda desk: " ".join(map(str, desk.placed()))),
            ("follows" + text[5:], lambda desk: "yes" if desk.follows(line) else "no"),
            (f"between {one} {other};", lambda desk: " ".join(desk.between(("at", one), ("at", other)))),
            (f"between begin {one} end {other};", lambda desk: " ".join(desk.between(("begin", one), ("end", other)))),
            (f"ways {one} {other};", lambda desk: " ".join(desk.ways(one, other))),
            ("lines;", lambda desk: " ".join(told[0] for told in desk.sheet()[2]))))


if __name__ == "__main__":
    unittest.main()
