"""What the document promises of all functions together: S0.2 to S0.4."""

import copy
import importlib
import unittest

from slow import FOUR, SIX, THREE
from soonerornot.console import Console
from soonerornot.desk import Desk
from test_desk import SHEET
from test_language import INTERFACE
from test_whys import B as WHY_BOOK
from test_whytrees import HIGH, LOW, WHY

THINGS = ((0, 1), (2, 3), (4, 5))
SAYING = (((0, 1),), (2, 0))
PLACING = (7, -2, 7, 30)
PARTS = (((0, 1), ("fire", 0, ())), ((1, 0), ("given", 0)), ((2, 0), ("fire", 1, ((0, 1),))))
E_SET = ((0, 1, 0), (0, 1, 1), (0, 1, 2), (1, 0, 2), (1, 2, 0))
FORGET = (4, (((), (0, 3)), ((), (3, 1)), (((0, 1),), (2, 0))))
KEPT = (0, 1, 2)
ANY = [1, {"a": [2, ("b", None)]}, ("c", [True])]
NEVER = (2, (((), None), ((), (0, 1))))
LOT = (2, 3, 6)
TABLE = (((0,), (2, 3), (3, 12)), ((1, 2), (0,), (6, 7)), ((8,), (), (0,)))
LINE = ("v", (), ("<=", ("at", "a"), ("at", "b")))

# For each function of the interface the arguments of some calls.
CALLS = {
    "words": {"is_name": [("a",), (ANY,)], "is_integer": [(3,), (ANY,)], "is_number": [(-3,), (ANY,)]},
    "books": {"check_saying": [(3, SAYING), (3, ANY)], "check_book": [(SIX,), (ANY,)],
              "check_placing": [(4, PLACING), (4, (1, ANY, 3, 4))], "check_order": [(2, (0, 1)), (2, (0, 2))]},
    "sheets": {"check_sheet": [(SHEET,), (ANY,), ((("a",), ANY, ()),)], "moments_of": [(SHEET,)],
               "number_of": [(SHEET, ("end", "s"))], "stretch_ends": [(SHEET, "t"), (SHEET, "a"), (SHEET, ANY)],
               "line_named": [(SHEET, "x"), (SHEET, ANY)]},
    "layouts": {"line_sayings": [(SHEET, LINE)], "book_of_sheet": [(SHEET,)], "lines_of": [(SHEET,)]},
    "lexemes": {"lexemes": [("say x a <= b;",), ("a ?",)]},
    "sheettexts": {"sheet_text": [(SHEET,)], "line_text": [(LINE,)], "term_text": [(("begin", "s"),)],
                   "read_line": [("say x a = b;",), ("say",)], "read_term": [("begin s",), ("begin",)],
                   "read_sheet": [("sheet { moments a; stretches s; }",), ("sheet { moments a a; stretches; }",),
                                  ("sheet",)]},
    "placings": {"keeps": [(SAYING, (0, 0, 1))], "keeps_book": [(FOUR, (0, 1, 2, 3))], "broken": [(FOUR, (3, 2, 1, 0))],
                 "first_broken": [(FOUR, (3, 2, 1, 0))], "order_of": [(PLACING,)], "is_idle": [(SAYING,)],
                 "parting": [((0, 1), (1, 0)), ((0, 1), (0, 7))]},
    "orders": {"orders": [(3,)], "how_many": [(40,)], "number_of_order": [((1, 0, 2),)], "order_at": [(3, 7)],
               "left_of": [(PLACING, (3, 1))], "left_order": [((1, 0, 1, 2), (3, 1))], "spreads": [((1, 0),)]},
    "sides": {"turned": [(SAYING,)], "mirrored": [(PLACING,)], "renamed": [(SAYING, (5, 2, 0))],
              "turned_book": [(THREE,)], "renamed_book": [(THREE, 9, (5, 2, 0))], "beside": [(THREE, FOUR)],
              "together": [(THREE, WHY_BOOK)]},
    "derivations": {"closed": [(THREE, ((1, 0),))], "laps": [(THREE, ((1, 0), (0, 2)))],
                    "derivation": [(THREE, ((1, 0),), (2, 0)), (THREE, (), (2, 0))],
                    "judge_derivation": [(THREE, ((1, 0),), (2, 0), PARTS), (THREE, (), (2, 0), ANY)]},
    "leanings": {"leaned": [((((2, 2), ("same",)),) + PARTS[:1],)], "uses": [(PARTS,)],
                 "grafted": [(PARTS, {0: (((1, 0), ("given", 5)),)})], "turned_derivation": [(PARTS,)]},
    "settled": {"classes": [(FOUR, ((1, 0),))], "told_placing": [(FOUR, ()), (NEVER, ())],
                "placing_against": [(FOUR, (), (2, 3))], "given_by": [(((0, 1), (2, 3)),)],
                "follows": [(FOUR, ((), (0, 2)))], "settle": [(FOUR, ((), (0, 2))), (FOUR, ((), (2, 0)))],
                "can_keep": [(FOUR,)], "keep": [(FOUR,), (NEVER,)],
                "judge_settled": [(FOUR, ((), (0, 2)), ("not", (0, 1, 2, 3))), (FOUR, ((), None), ANY)],
                "what_can_be": [(FOUR, 2, 3)]},
    "rings": {"broken_by": [((0, 1), (1, 0))], "against_all": [(FOUR, (), ((3, 0), (1, 3)))],
              "ring_of": [(FOUR, (), ((0, 3), (3, 2)))], "judge_ring": [(FOUR, (), ((0, 3), (3, 2)), (0, 1)),
                                                                        (FOUR, (), ((0, 3),), ANY)]},
    "alike": {"follows_all": [(THREE, THREE)], "first_apart": [(THREE, WHY_BOOK), (THREE, THREE)],
              "are_alike": [(THREE, WHY_BOOK)]},
    "ways": {"way_words": [()], "way_named": [("met",), (ANY,)], "way_order": [(3,)],
             "way_of": [((0, 1, 2, 3), (0, 1), (2, 3))], "turned": [(3,)], "turned_lot": [(LOT,)],
             "about_lot": [(LOT,)]},
    "together": {"together": [(6, 6)], "together_lots": [(LOT, LOT)], "threes": [()],
                 "three_placed": [(3, 3, 3), (3, 3, 0)]},
    "waylots": {"is_said": [(LOT,)], "is_clear": [(LOT,)], "is_plain": [(LOT,)], "hull_of_lot": [(LOT,)],
                "refusing_saying": [(LOT, 12), (LOT, 2)], "sayings_of_lot": [(LOT, (0, 1), (2, 3))]},
    "labels": {"way_book": [(SIX, (0, 1), (2, 3), 3)], "label": [(SIX, (0, 1), (2, 3))],
               "placing_with": [(SIX, (0, 1), (2, 3), 3), (SIX, (0, 1), (2, 3), 0)],
               "label_paper": [(SIX, (0, 1), (2, 3))], "judge_label": [(SIX, (0, 1), (2, 3), ANY)]},
    "narrowing": {"first_table": [(SIX, list(THINGS))], "narrowed_by": [(TABLE, 0, 1, 2)],
                  "narrow_table": [(SIX, list(THINGS))], "narrowing_paper": [(SIX, list(THINGS))],
                  "judge_narrowing": [(SIX, list(THINGS), TABLE, ()), (SIX, list(THINGS), TABLE, ANY)]},
    "scenes": {"label_table": [(SIX, list(THINGS))], "scene_of": [(list(THINGS[:2]), (0, 1, 2, 3))],
               "told_scene": [(SIX, list(THINGS))]},
    "ordersets": {"refusing": [(3, E_SET, (1, 0, 0)), (6, (), (0, 1, 2, 3, 4, 5))],
                  "witnesses": [(3, E_SET, (2, 0, 1))],
                  "judge_witnesses": [(3, E_SET, (2, 0, 1), ANY), (3, E_SET, (2, 0, 1), (((0, 1), (1, 0, 2)),))],
                  "hull": [(3, E_SET), (5, ())], "passes": [(3, E_SET)], "book_of": [(3, E_SET)], "said": [(FORGET,)]},
    "sharp": {"tells": [(((), None), SAYING)], "sharp": [(3, E_SET), (5, ())]},
    "forgetting": {"lifted": [((1, 3), ((), (1, 0))), ((0, 1, 2, 3, 4), SAYING)], "shown_by": [(KEPT, PLACING)],
                   "can_fill": [(FORGET, KEPT, (0, 1, 0))], "shown_orders": [(FORGET, KEPT)],
                   "filling": [(FORGET, KEPT, (0, 1, 0)), (FORGET, KEPT, (0, 0, 1))],
                   "judge_filling": [(FORGET, KEPT, (0, 1, 0), (0, 1, 0, 0)), (FORGET, KEPT, (0, 1, 0), ANY)],
                   "refusal": [(FORGET, KEPT, (0, 1, 0)), (FORGET, KEPT, (0, 0, 1))],
                   "judge_refusal": [(FORGET, KEPT, (0, 0, 1), (SAYING, ANY)), (FORGET, KEPT, (0, 0, 1), ANY)]},
    "forgotten": {"follows_kept": [(FORGET, KEPT, SAYING)], "sharp_book": [(FORGET, KEPT), (NEVER, ())],
                  "judge_forgotten": [(FORGET, KEPT, ANY), (FORGET, KEPT, (3, ()))]},
    "whys": {"book_of_lot": [(WHY_BOOK, (0, 3))], "least_lots": [(WHY_BOOK,), ((2, (((), None),) * 15),)],
             "greatest_lots": [(WHY_BOOK,)], "judge_least": [(WHY_BOOK, LOW[0]), (WHY_BOOK, ANY)],
             "judge_greatest": [(WHY_BOOK, HIGH[0]), (WHY_BOOK, ANY)]},
    "whytrees": {"full_why": [(WHY_BOOK,)], "judge_why": [(WHY_BOOK, LOW, HIGH, WHY), (WHY_BOOK, LOW, HIGH, ANY),
                                                          (WHY_BOOK, LOW, HIGH, (*WHY[:2], ANY))]},
    "thinning": {"spare": [(WHY_BOOK,)], "thin_lot": [(WHY_BOOK,)],
                 "judge_thin": [(WHY_BOOK, LOW[0]), (WHY_BOOK, ANY)],
                 "difference": [(THREE, WHY_BOOK), (THREE, THREE)],
                 "judge_difference": [(THREE, WHY_BOOK, ANY), (THREE, WHY_BOOK, (0, 0, (1, 0, 0)))],
                 "likeness": [(THREE, THREE), (THREE, WHY_BOOK)], "judge_likeness": [(THREE, THREE, ANY)]},
}
WHETHER = """is_name is_integer is_number keeps keeps_book is_idle follows can_keep broken_by follows_all are_alike
is_said is_clear is_plain passes tells can_fill follows_kept judge_least judge_greatest judge_thin judge_difference
judge_likeness""".split()
# Where a list is expected, and so a tuple may be passed.
LISTS = {"first_table": 1, "narrow_table": 1, "narrowing_paper": 1, "judge_narrowing": 1, "label_table": 1,
         "scene_of": 0, "told_scene": 1}


def all_calls():
    for file, names in CALLS.items():
        module = importlib.import_module(f"soonerornot.{file}")
        for name, rows in names.items():
            for arguments in rows:
                yield f"{file}.{name}", getattr(module, name), arguments


def outcome(call, arguments):
    """Return what a call returns, or the class and the attributes of the error that it raises."""
    try:
        return call(*arguments)
    except (ValueError, LookupError) as error:
        return type(error), dict(vars(error))


def lists_in(value):
    """Return all lists and dicts in a value."""
    if isinstance(value, (list, dict)):
        inside = value if isinstance(value, list) else value.values()
        return [value, *(one for member in inside for one in lists_in(member))]
    if isinstance(value, tuple):
        return [one for member in value for one in lists_in(member)]
    return []


def is_plain(value):
    if type(value) in (tuple, list):
        return all(is_plain(member) for member in value)
    return type(value) in (int, str, bool, type(None))


class Everywhere(unittest.TestCase):
    def test_each_function_of_the_interface_is_here(self):
        told = {(file, name) for file, names in INTERFACE.items() for name in names.split()}
        here = {(file, name) for file, names in CALLS.items() for name in names}
        classes = {(file, name) for file, name in told if file in ("errors", "desk", "console")}
        self.assertEqual(told - classes, here)

    def test_what_was_passed_is_as_it_was(self):
        for name, call, arguments in all_calls():
            with self.subTest(name=name, arguments=arguments):
                before = copy.deepcopy(arguments)
                outcome(call, arguments)
                self.assertEqual(arguments, before)

    def test_the_same_call_again_returns_an_equal_value(self):
        for name, call, arguments in all_calls():
            with self.subTest(name=name, arguments=arguments):
                found = outcome(call, arguments)
                self.assertEqual(outcome(call, arguments), found)
                self.assertEqual(outcome(call, copy.deepcopy(arguments)), found)

    def test_lists_that_are_returned_are_new(self):
        for name, call, arguments in all_calls():
            found = outcome(call, arguments)
            if not isinstance(found, tuple) or not found or not isinstance(found[0], type):
                with self.subTest(name=name, arguments=arguments):
                    lists = lists_in(found)
                    others = [*lists_in(outcome(call, arguments)), *lists_in(arguments)]
                    self.assertEqual(len({id(one) for one in lists + others}), len(lists) + len(others))
                    before = copy.deepcopy(found)
                    for one in lists:
                        one.clear()
                    self.assertEqual(outcome(call, arguments), before)

    def test_what_is_returned_is_plain(self):
        for name, call, arguments in all_calls():
            found = outcome(call, arguments)
            if not isinstance(found, tuple) or not found or not isinstance(found[0], type):
                self.assertTrue(is_plain(found), name)
                self.assertEqual(type(found) is bool, name.rpartition(".")[2] in WHETHER, name)

    def test_a_tuple_in_the_place_of_a_list(self):
        seen = set()
        for name, call, arguments in all_calls():
            place = LISTS.get(name.rpartition(".")[2])
            if place is not None:
                self.assertIs(type(arguments[place]), list)
                changed = (*arguments[:place], tuple(arguments[place]), *arguments[place + 1:])
                self.assertEqual(outcome(call, changed), outcome(call, arguments), name)
                seen.add(name.rpartition(".")[2])
        self.assertEqual(seen, set(LISTS))

    def test_no_result_shares_a_list_with_a_later_one(self):
        desk = Desk()
        desk.do(("sheet", SHEET))
        desk.mark("m")
        calls = (desk.acts, desk.marks, lambda: desk.between(("at", "a"), ("at", "b")), lambda: desk.ways("s", "t"))
        for call in calls:
            found = call()
            before = list(found)
            self.assertIs(type(found), list)
            found.append("more")
            self.assertEqual(call(), before)

    def test_desks_made_anew_by_the_same_calls_tell_the_same(self):
        lines = ("moment a;", "moment b;", "say x a < b;", "follows b < a;", "mark m;", "undo;", "since m;", "placed;",
                 "between a b;", "redo;", "between a b;", "say y;", "can;", "drop y;")
        desks = [Desk(), Desk()]
        for line in lines:
            answers = [Console(desk).answer(line) for desk in desks]
            self.assertEqual(answers[0], answers[1])
        self.assertEqual(desks[0].work(), desks[1].work())


if __name__ == "__main__":
    unittest.main()
