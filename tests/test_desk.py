import copy
import itertools
import random
import unittest

from soonerornot.alike import follows_all
from soonerornot.desk import Desk
from soonerornot.errors import BadAct, BadAsk, NothingDone, UnknownName
from soonerornot.labels import label
from soonerornot.layouts import book_of_sheet, line_sayings
from soonerornot.settled import can_keep, told_placing, what_can_be
from soonerornot.sheets import check_sheet, moments_of, number_of, stretch_ends
from soonerornot.ways import way_words
from trees import JUNK, NO_TUPLES, nested

EMPTY = ((), (), ())
SHEET = (("a", "b"), ("s", "t"), (("x", (), ("<", ("at", "a"), ("begin", "s"))), ("y", (), ("meets", "s", "t")),
                                  ("z", ((("at", "a"), ("at", "b")),), ("never",))))
NEVER = (("a",), (), (("x", (), ("<", ("at", "a"), ("at", "a"))),))
WORDS = ("sheet", "moment", "stretch", "say", "drop")


def a_line(name, sign="<=", one="a", other="b"):
    return (name, (), (sign, ("at", one), ("at", other)))


def desk_with(sheet):
    desk = Desk()
    desk.do(("sheet", sheet))
    return desk


def state(desk):
    """Return all that a desk tells without a name of its own."""
    return desk.sheet(), desk.acts(), desk.marks(), [desk.since(name) for name in desk.marks()], desk.work()


class Acts(unittest.TestCase):
    def refused(self, desk, act, word):
        with self.subTest(act=act):
            before = copy.deepcopy(state(desk))
            self.assertEqual(desk.act_word(act), word)
            with self.assertRaises(BadAct) as caught:
                desk.do(act)
            self.assertEqual(caught.exception.word, word)
            self.assertEqual(state(desk), before)

    def done(self, desk, act, sheet):
        with self.subTest(act=act):
            many = len(desk.acts())
            self.assertIsNone(desk.act_word(act))
            self.assertEqual(desk.do(act), many + 1)
            self.assertEqual(desk.sheet(), sheet)
            self.assertEqual(desk.acts()[many:], [act])
            check_sheet(desk.sheet())

    def test_a_new_desk(self):
        desk = Desk()
        self.assertEqual(desk.sheet(), EMPTY)
        self.assertEqual((desk.acts(), desk.marks(), desk.work()), ([], [], 0))
        self.assertIs(desk.can(), True)
        self.assertEqual(desk.placed(), ())

    def test_each_act(self):
        desk = Desk()
        self.done(desk, ("moment", "a"), (("a",), (), ()))
        self.done(desk, ("stretch", "s"), (("a",), ("s",), ()))
        self.done(desk, ("moment", "b"), (("a", "b"), ("s",), ()))
        x, y = a_line("x"), ("y", (), ("within", "s", "s"))
        self.done(desk, ("say", x), (("a", "b"), ("s",), (x,)))
        self.done(desk, ("say", y), (("a", "b"), ("s",), (x, y)))
        new = a_line("x", "<")
        self.done(desk, ("say", new), (("a", "b"), ("s",), (new, y)))
        self.done(desk, ("drop", "x"), (("a", "b"), ("s",), (y,)))
        self.done(desk, ("say", x), (("a", "b"), ("s",), (y, x)))
        self.done(desk, ("sheet", SHEET), SHEET)
        self.done(desk, ("sheet", EMPTY), EMPTY)

    def test_form(self):
        for desk in (Desk(), desk_with(SHEET)):
            for act in (*JUNK, ("sheet",), ("moment",), ("moment", "c", "d"), ["moment", "c"], ("undo",), ("undo", "c"),
                        ("Moment", "c"), ("mark", "c"), (None, "c"), (("moment",), "c"), (0, 1), "moment", "do",
                        ("moment c",), {"moment": "c"}, ("drop", "x", ()), (["drop"], "x"), (True, False), (Desk(), 1)):
                self.refused(desk, act, "form")

    def test_sheet(self):
        desk = desk_with(SHEET)
        for wrong in (*JUNK, SHEET[:2], list(SHEET), (["a"], (), ()), (("a", "a"), (), ()), (("a",), ("a",), ()),
                      (("if",), (), ()), ((), (), (a_line("x"),)), (("a", "b"), (), (a_line("x"), a_line("x")))):
            self.refused(desk, ("sheet", wrong), "sheet")

    def test_names(self):
        desk = desk_with(SHEET)
        for word in ("moment", "stretch"):
            for wrong in (*JUNK, "a", "s", "b", "t", "if", "then", "never", "begin", "end", "", "1a", "A", "a b",
                          "abcdefghijklm", ("c",), ["c"], "c\n"):
                self.refused(desk, (word, wrong), "name")
            # Names of lines, words and signs of other kinds are free.
            for name in ("x", "c", "abcdefghijkl", "say", "sheet", "same", "moment", "a1"):
                twin = desk.twin()
                place = WORDS.index(word) - 1
                sheet = tuple((*part, name) if k == place else part for k, part in enumerate(SHEET))
                self.done(twin, (word, name), sheet)

    def test_say(self):
        desk = desk_with(SHEET)
        for wrong in (*JUNK, "x", a_line("if"), a_line("A"), a_line(""), a_line("v", "<=", "c"), a_line("v", ">"),
                      a_line("v", "<=", "s"), list(a_line("v")), a_line("v")[:2], (*a_line("v"), ()),
                      ("v", [], ("never",)), ("v", (), ["never"]), ("v", (), ("never", ())),
                      ("v", (), ("same", "a", "s")),
                      ("v", ((("at", "a"), ("at", "c")),), ("never",)), ("v", (), "never"), ("v", (), None)):
            self.refused(desk, ("say", wrong), "line")

    def test_thirty_lines(self):
        desk = desk_with((("a", "b"), (), tuple(a_line(f"x{k}") for k in range(29))))
        self.assertIsNone(desk.act_word(("say", a_line("y"))))
        desk.do(("say", a_line("y")))
        self.refused(desk, ("say", a_line("z")), "many")
        # Of two words the first one that fits.
        self.refused(desk, ("say", a_line("z", "<=", "c")), "line")
        new = a_line("x7", "/=")
        lines = tuple(new if k == 7 else a_line(f"x{k}") for k in range(29))
        self.done(desk, ("say", new), (("a", "b"), (), (*lines, a_line("y"))))
        desk.do(("drop", "x0"))
        self.done(desk, ("say", a_line("z")), (("a", "b"), (), (*lines[1:], a_line("y"), a_line("z"))))
        # A sheet may have more lines, and then none is put to them.
        forty = (("a", "b"), (), tuple(a_line(f"x{k}") for k in range(40)))
        self.done(desk, ("sheet", forty), forty)
        self.refused(desk, ("say", a_line("y")), "many")
        self.assertIsNone(desk.act_word(("say", a_line("x39"))))

    def test_drop(self):
        desk = desk_with(SHEET)
        for wrong in (*JUNK, "a", "s", "X", "v", "if", ("x",), ["x"], SHEET[2][0]):
            self.refused(desk, ("drop", wrong), "name")
        self.done(desk, ("drop", "y"), (*SHEET[:2], (SHEET[2][0], SHEET[2][2])))
        self.refused(desk, ("drop", "y"), "name")
        self.refused(Desk(), ("drop", "x"), "name")

    def test_the_same_line_again(self):
        desk = desk_with(SHEET)
        self.done(desk, ("say", SHEET[2][1]), SHEET)
        self.assertEqual(len(desk.acts()), 2)

    def test_lines_stay_as_names_come_and_a_dropped_one_leaves_no_trace(self):
        desk = desk_with(SHEET)
        self.done(desk, ("moment", "c"), (("a", "b", "c"), *SHEET[1:]))
        self.done(desk, ("stretch", "u"), (("a", "b", "c"), ("s", "t", "u"), SHEET[2]))
        self.assertEqual(book_of_sheet(desk.sheet())[0], 9)

    def test_what_was_passed_is_kept_as_it_was(self):
        desk = Desk()
        act = ("sheet", [["a"], {"b": [1]}])
        self.refused(desk, act, "sheet")
        self.assertEqual(act, ("sheet", [["a"], {"b": [1]}]))

    def test_acts_is_a_new_list(self):
        desk = desk_with(SHEET)
        found = desk.acts()
        self.assertEqual(found, [("sheet", SHEET)])
        found.append("more")
        self.assertEqual(desk.acts(), [("sheet", SHEET)])
        self.assertIsNot(desk.acts(), desk.acts())


class Again(unittest.TestCase):
    def nothing(self, call):
        with self.assertRaises(NothingDone):
            call()

    def test_back_and_forth(self):
        desk = Desk()
        self.nothing(desk.undo)
        self.nothing(desk.redo)
        acts = [("moment", "a"), ("moment", "b"), ("say", a_line("x")), ("sheet", SHEET), ("drop", "y")]
        sheets = [EMPTY]
        for act in acts:
            desk.do(act)
            sheets.append(desk.sheet())
        for many in range(4, -1, -1):
            self.assertEqual(desk.undo(), many)
            self.assertEqual((desk.sheet(), desk.acts()), (sheets[many], acts[:many]))
        self.nothing(desk.undo)
        for many in range(1, 6):
            self.assertEqual(desk.redo(), many)
            self.assertEqual((desk.sheet(), desk.acts()), (sheets[many], acts[:many]))
        self.nothing(desk.redo)

    def test_what_takes_away_what_can_be_done_again(self):
        desk = Desk()
        desk.do(("moment", "a"))
        desk.do(("moment", "b"))
        desk.undo()
        desk.do(("moment", "b"))
        self.nothing(desk.redo)
        desk.undo()
        desk.undo()
        self.assertEqual(desk.redo(), 1)
        desk.do(("stretch", "s"))
        self.nothing(desk.redo)
        self.assertEqual(desk.sheet(), (("a",), ("s",), ()))

    def test_what_does_not(self):
        desk = Desk()
        desk.do(("moment", "a"))
        desk.do(("moment", "b"))
        desk.do(("moment", "c"))
        desk.undo()
        desk.undo()
        for act in (("moment", "a"), ("drop", "x"), None, ("sheet", 0), ("say", a_line("x"))):
            with self.assertRaises(BadAct):
                desk.do(act)
        desk.mark("m")
        desk.mark("m")
        desk.since("m")
        desk.marks()
        desk.act_word(("moment", "d"))
        self.ask_all(desk)
        desk.twin().do(("moment", "e"))
        self.assertEqual(desk.redo(), 2)
        self.ask_all(desk)
        with self.assertRaises(UnknownName):
            desk.since("n")
        self.assertEqual(desk.redo(), 3)
        self.assertEqual(desk.sheet(), (("a", "b", "c"), (), ()))
        self.nothing(desk.redo)

    def ask_all(self, desk):
        desk.can()
        desk.placed()
        desk.follows(a_line("x", "<=", "a", "a"))
        desk.between(("at", "a"), ("at", "a"))
        for call in (lambda: desk.ways("a", "a"), lambda: desk.follows(None), lambda: desk.between(0, 1)):
            with self.assertRaises(BadAsk):
                call()

    def test_an_act_that_is_done_again_fits_its_sheet(self):
        desk = desk_with(SHEET)
        desk.do(("drop", "x"))
        desk.do(("say", a_line("x")))
        for _ in range(3):
            desk.undo()
        for _ in range(3):
            desk.redo()
        self.assertEqual([line[0] for line in desk.sheet()[2]], ["y", "z", "x"])

    def test_many_acts(self):
        desk = Desk()
        for _ in range(300):
            desk.do(("moment", "a"))
            desk.undo()
            desk.do(("sheet", EMPTY))
        self.assertEqual(len(desk.acts()), 300)
        for many in range(299, -1, -1):
            self.assertEqual(desk.undo(), many)


class Marks(unittest.TestCase):
    def test_marks(self):
        desk = Desk()
        self.assertIsNone(desk.mark("m"))
        desk.do(("moment", "a"))
        desk.mark("b")
        desk.do(("moment", "b"))
        desk.do(("moment", "c"))
        self.assertEqual((desk.since("m"), desk.since("b")), (3, 2))
        for _ in range(3):
            desk.undo()
        self.assertEqual((desk.since("m"), desk.since("b")), (0, -1))
        desk.redo()
        self.assertEqual((desk.since("m"), desk.since("b")), (1, 0))
        self.assertEqual(desk.marks(), ["b", "m"])
        self.assertIsNot(desk.marks(), desk.marks())

    def test_set_anew(self):
        desk = Desk()
        desk.mark("m")
        desk.do(("moment", "a"))
        desk.mark("m")
        self.assertEqual((desk.since("m"), desk.marks()), (0, ["m"]))
        desk.undo()
        self.assertEqual(desk.since("m"), -1)
        desk.do(("moment", "b"))
        desk.do(("moment", "c"))
        self.assertEqual(desk.since("m"), 1)

    def test_names_that_are_no_marks(self):
        desk = Desk()
        for name in (*JUNK, "m", "if", "M", ["m"], ("m",), Desk()):
            with self.assertRaises(UnknownName) as caught:
                desk.since(name)
            self.assertIs(caught.exception.name, name)
        desk.mark("m")
        desk.mark("if")
        self.assertEqual((desk.since("m"), desk.since("if"), desk.marks()), (0, 0, ["if", "m"]))
        for name in (*JUNK, "n", ["m"], ("m",)):
            if name != "if":
                with self.assertRaises(UnknownName):
                    desk.since(name)

    def test_ascending(self):
        desk = Desk()
        for name in ("z", "a1", "a", "b0", "aa"):
            desk.mark(name)
        self.assertEqual(desk.marks(), ["a", "a1", "aa", "b0", "z"])


class Questions(unittest.TestCase):
    def refused(self, call, word):
        with self.assertRaises(BadAsk) as caught:
            call()
        self.assertEqual(caught.exception.word, word)

    def test_can_and_placed(self):
        desk = desk_with(SHEET)
        self.assertIs(desk.can(), True)
        self.assertEqual(desk.placed(), told_placing(book_of_sheet(SHEET), ()))
        self.assertEqual(desk.placed(), (0, 1, 2, 3, 3, 4))
        desk.do(("say", ("v", (), ("<", ("end", "t"), ("at", "a")))))
        self.assertIs(desk.can(), False)
        self.refused(desk.placed, "never")
        desk.undo()
        self.assertIs(desk.can(), True)
        self.refused(desk_with(NEVER).placed, "never")

    def test_follows(self):
        desk = desk_with(SHEET)
        for line, truth in ((SHEET[2][0], True), (SHEET[2][1], True), (SHEET[2][2], True), (a_line("v"), False),
                            (a_line("v", "/="), True), (a_line("v", "<=", "a", "a"), True),
                            (a_line("v", "<", "a", "a"), False), (("v", (), ("before", "s", "t")), False),
                            (("v", (), ("<", ("at", "a"), ("end", "t"))), True),
                            (("v", ((("at", "b"), ("end", "t")),), ("<", ("at", "a"), ("at", "b"))), True),
                            (("v", (), ("never",)), False), (("v", (), ("after", "t", "s")), False),
                            (("v", (), ("met", "t", "s")), True), (("if0", (), ("same", "s", "s")), True)):
            self.assertIs(desk.follows(line), truth, line)

    def test_the_name_plays_no_part(self):
        desk = desk_with(SHEET)
        for name in ("x", "v", "a", "s", "same", "abcdefghijkl"):
            self.assertIs(desk.follows(a_line(name, "/=")), True)
        self.assertEqual(desk.work(), 1)
        for name in ("if", "never", "A", "", None, 0, ("x",), ["x"], "abcdefghijklm"):
            self.refused(lambda: desk.follows(a_line(name, "/=")), "line")
        self.assertEqual(desk.work(), 1)

    def test_no_line(self):
        for desk in (Desk(), desk_with(SHEET)):
            for wrong in (*JUNK, "x", a_line("v", "<=", "c"), list(a_line("v")), a_line("v")[1:],
                          ("v", (), ("same", "s", "u")), ("v", (), ("x", "s", "t")), nested(40, "tuple")):
                self.refused(lambda: desk.follows(wrong), "line")
        self.assertIs(Desk().follows(("v", (), ("never",))), False)

    def test_all_follows_where_nothing_keeps_the_book(self):
        desk = desk_with(NEVER)
        self.assertIs(desk.follows(("v", (), ("never",))), True)
        self.assertEqual(desk.between(("at", "a"), ("at", "a")), [])

    def test_between(self):
        desk = desk_with(SHEET)
        a, b, s, e = ("at", "a"), ("at", "b"), ("begin", "s"), ("end", "s")
        for one, other, signs in ((a, s, ["<"]), (s, a, [">"]), (a, b, ["<", ">"]), (b, s, ["<", "=", ">"]),
                                  (a, a, ["="]), (e, ("begin", "t"), ["="]), (e, e, ["="]), (b, b, ["="])):
            self.assertEqual(desk.between(one, other), signs)
        self.assertIsNot(desk.between(a, b), desk.between(a, b))
        for wrong in (*JUNK, "a", ("at", "s"), ("begin", "a"), ("at", "c"), ("end", "u"), ["at", "a"], ("at",),
                      ("at", "a", "b"), ("x", "a"), ("at", ["a"])):
            for pair in ((wrong, a), (a, wrong), (wrong, wrong)):
                self.refused(lambda: desk.between(*pair), "term")
        never = desk_with((("a", "b"), (), (("x", (), ("never",)),)))
        self.assertEqual(never.between(a, b), [])
        self.assertEqual(never.between(b, b), [])

    def test_ways(self):
        desk = desk_with(SHEET)
        self.assertEqual(desk.ways("s", "t"), ["meets"])
        self.assertEqual(desk.ways("t", "s"), ["met"])
        desk.do(("drop", "y"))
        self.assertEqual(desk.ways("s", "t"), way_words())
        desk.do(("say", ("v", (), ("<", ("begin", "s"), ("begin", "t")))))
        self.assertEqual(desk.ways("s", "t"), ["meets", "before", "ended", "overlaps", "holds"])
        self.assertIsNot(desk.ways("s", "t"), desk.ways("s", "t"))
        for wrong in (*JUNK, "a", "u", ["s"], ("s",), "S", "x"):
            for pair in ((wrong, "s"), ("s", wrong), (wrong, wrong)):
                self.refused(lambda: desk.ways(*pair), "name")
        self.refused(lambda: desk.ways("s", "s"), "name")
        desk.do(("say", ("w", (), ("never",))))
        self.assertEqual(desk.ways("s", "t"), [])
        self.refused(lambda: desk.ways("t", "t"), "name")


class Work(unittest.TestCase):
    def test_the_same_question_twice(self):
        desk = desk_with(SHEET)
        desk.follows(a_line("v"))
        desk.follows(a_line("w"))
        desk.follows(a_line("v"))
        self.assertEqual(desk.work(), 1)
        desk.follows(a_line("v", "<"))
        self.assertEqual(desk.work(), 2)
        # Ties in another sequence tell the same sayings.
        ties = ((("at", "a"), ("at", "b")), (("begin", "s"), ("begin", "t")))
        for some in (ties, ties[::-1], tuple(tie[::-1] for tie in ties), ties * 2):
            desk.follows(("v", some, ("never",)))
        self.assertEqual(desk.work(), 3)

    def test_other_lines_with_the_same_sayings(self):
        desk = desk_with(SHEET)
        desk.follows(("v", (), ("meets", "s", "t")))
        desk.follows(("v", (), ("=", ("end", "s"), ("begin", "t"))))
        self.assertEqual(desk.work(), 1)
        desk.follows(("v", (), ("met", "t", "s")))
        self.assertEqual(desk.work(), 2)
        desk.follows(a_line("v", "<=", "a", "a"))
        desk.follows(a_line("v", "=", "b", "b"))
        desk.follows(("v", (), ("<=", ("end", "s"), ("end", "s"))))
        self.assertEqual(desk.work(), 3)

    def test_equal_books_by_other_acts(self):
        desk = Desk()
        for act in (("moment", "a"), ("moment", "b"), ("say", a_line("x"))):
            desk.do(act)
        desk.follows(a_line("v"))
        desk.do(("sheet", (("c", "d"), (), (a_line("y", "<=", "c", "d"),))))
        desk.follows(a_line("v", "<=", "c", "d"))
        self.assertEqual(desk.work(), 1)
        desk.do(("moment", "e"))
        desk.follows(a_line("v", "<=", "c", "d"))
        self.assertEqual(desk.work(), 2)
        for _ in range(2):
            desk.undo()
        desk.follows(a_line("v"))
        self.assertEqual(desk.work(), 2)
        desk.do(("drop", "x"))
        desk.follows(a_line("v"))
        self.assertEqual(desk.work(), 3)

    def test_other_questions_and_those_with_a_word(self):
        desk = desk_with(SHEET)
        desk.can(), desk.placed(), desk.between(("at", "a"), ("at", "b")), desk.ways("s", "t")
        for wrong in (None, (), a_line("v", "<=", "c"), a_line("if")):
            with self.assertRaises(BadAsk):
                desk.follows(wrong)
        desk.mark("m")
        self.assertEqual(desk.work(), 0)


class Twins(unittest.TestCase):
    def desk(self):
        desk = desk_with(SHEET)
        desk.do(("drop", "y"))
        desk.do(("drop", "x"))
        desk.mark("m")
        desk.follows(a_line("v"))
        desk.undo()
        return desk

    def test_a_twin_is_as_the_desk_is(self):
        desk = self.desk()
        twin = desk.twin()
        self.assertIs(type(twin), Desk)
        self.assertIsNot(twin, desk)
        self.assertEqual(state(twin), state(desk))
        self.assertEqual((twin.redo(), desk.redo()), (3, 3))
        self.assertEqual(state(twin), state(desk))

    def test_it_goes_its_own_way(self):
        for turn in range(2):
            pair = [self.desk()]
            pair.insert(turn, pair[0].twin())
            one, other = pair
            before = state(other)
            one.do(("moment", "c"))
            one.mark("n")
            one.mark("m")
            one.follows(a_line("v"))
            one.follows(a_line("v", "<=", "c"))
            self.assertEqual(state(other), before)
            one.undo()
            one.undo()
            one.undo()
            self.assertEqual(state(other), before)
            self.assertEqual(other.redo(), 3)
            self.assertEqual(one.sheet(), EMPTY)
            with self.assertRaises(UnknownName):
                other.since("n")

    def test_it_knows_what_the_desk_knows(self):
        desk = self.desk()
        desk.redo()
        twin = desk.twin()
        twin.follows(a_line("v"))
        self.assertEqual((twin.work(), desk.work()), (1, 1))
        twin.follows(a_line("v", "<"))
        self.assertEqual((twin.work(), desk.work()), (2, 1))
        desk.follows(a_line("v", "<"))
        self.assertEqual((twin.work(), desk.work()), (2, 2))

    def test_a_twin_of_a_twin(self):
        desk = self.desk()
        twin = desk.twin().twin()
        desk.do(("sheet", EMPTY))
        self.assertEqual(twin.sheet()[2], (SHEET[2][0], SHEET[2][2]))


class Holds(unittest.TestCase):
    """Whatever was done, a desk answers as a new one does at which the acts that are done are done."""

    NAMES = ("a", "b", "c", "s", "t")

    def some_term(self, rng):
        return (rng.choice(("at", "at", "begin", "end")), rng.choice(self.NAMES))

    def some_line(self, rng):
        ties = tuple((self.some_term(rng), self.some_term(rng)) for _ in range(rng.choice((0, 0, 1))))
        if rng.random() < 0.3:
            head = (rng.choice(way_words()), rng.choice(self.NAMES), rng.choice(self.NAMES))
        else:
            head = (rng.choice(("<=", "<", "=", "/=")), self.some_term(rng), self.some_term(rng))
        return (rng.choice("uvwxyz"), ties, rng.choice((head, head, head, ("never",))) if ties else head)

    def some_act(self, rng):
        word = rng.choice(WORDS[1:] + ("say",) * 6)
        if word == "say":
            return (word, self.some_line(rng))
        return (word, rng.choice("uvwxyz") if word == "drop" else rng.choice(self.NAMES))

    def step(self, rng, desk):
        chance = rng.random()
        try:
            if chance < 0.55:
                desk.do(self.some_act(rng))
            elif chance < 0.7:
                desk.undo()
            elif chance < 0.85:
                desk.redo()
            elif chance < 0.9:
                desk.mark(rng.choice("mn"))
            else:
                desk.follows(self.some_line(rng))
        except (BadAct, BadAsk, NothingDone):
            pass

    def answers(self, desk, lines):
        found = [desk.sheet(), desk.acts(), desk.can()]
        calls = [desk.placed, *(lambda line=line: desk.follows(line) for line in lines)]
        terms = [(word, name) for word in ("at", "begin") for name in self.NAMES]
        calls += [lambda pair=pair: desk.between(*pair) for pair in itertools.product(terms[:4], terms[5:])]
        calls += [lambda pair=pair: desk.ways(*pair) for pair in itertools.product(self.NAMES, repeat=2)]
        for call in calls:
            try:
                found.append(call())
            except BadAsk as error:
                found.append(error.word)
        return found

    def test_many(self):
        rng = random.Random(161)
        for _ in range(40):
            desk = Desk()
            for _ in range(rng.randint(5, 60)):
                self.step(rng, desk)
            other = Desk()
            for act in desk.acts():
                other.do(act)
            lines = [self.some_line(rng) for _ in range(6)]
            self.assertEqual(self.answers(desk, lines), self.answers(other, lines))
            self.check_answers(desk, lines)

    def check_answers(self, desk, lines):
        """Look at the answers by the book of the sheet."""
        sheet, book = desk.sheet(), book_of_sheet(desk.sheet())
        self.assertIs(desk.can(), can_keep(book))
        for line in sheet[2]:
            self.assertIs(desk.follows(line), True)
        for line in lines:
            try:
                truth = desk.follows(line)
            except BadAsk:
                continue
            self.assertIs(truth, follows_all(book, (book[0], tuple(line_sayings(sheet, line)))))
        signs = {"before": "<", "at once": "=", "behind": ">"}
        for one, other in itertools.permutations(moments_of(sheet), 2):
            told = what_can_be(book, number_of(sheet, one), number_of(sheet, other))
            self.assertEqual(desk.between(one, other), [signs[word] for word in told])
            self.assertEqual(bool(told), desk.can())
        for one, other in itertools.permutations(sheet[1], 2):
            lot = label(book, stretch_ends(sheet, one), stretch_ends(sheet, other))
            self.assertEqual(desk.ways(one, other), [way_words()[way] for way in lot])

    def test_a_great_sheet(self):
        names, stretches = tuple("abcd"), tuple("stuv")
        lines = tuple((f"x{k}", (), ("<=", ("end", stretches[k % 3]), ("begin", stretches[k % 3 + 1])))
                      for k in range(40))
        desk = desk_with((names, stretches, lines))
        self.assertEqual(desk.ways("s", "v"), ["before"])
        self.assertEqual(desk.ways("s", "t"), ["meets", "before"])
        self.assertIs(desk.follows(("v", (), ("before", "s", "v"))), True)
        self.assertEqual(len(desk.placed()), 12)


class Values(unittest.TestCase):
    def test_acts_and_questions_of_any_kind(self):
        desk = desk_with(SHEET)
        for value in (*JUNK, *NO_TUPLES):
            for word in WORDS:
                self.assertIsNotNone(desk.act_word((word, value)))
            self.assertEqual(desk.act_word(value), "form")
            self.assertEqual(desk.act_word((value, "c")), "form")
        self.assertEqual(state(desk), (SHEET, [("sheet", SHEET)], [], [], 0))


if __name__ == "__main__":
    unittest.main()
