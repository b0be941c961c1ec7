"""Looks at the package's files for what the language rules forbid, as far as that is seen at a glance."""

import ast
import builtins
import pathlib
import unittest

FOLDER = pathlib.Path(__file__).resolve().parent.parent / "soonerornot"
FILES = {path.stem: path.read_text() for path in sorted(FOLDER.glob("*.py"))}
TREES = {name: ast.parse(text) for name, text in FILES.items()}

BUILTINS = """len range enumerate zip min max sum abs sorted reversed int str bool list tuple dict set isinstance ord
repr any all divmod ValueError LookupError TypeError KeyError IndexError""".split()
METHODS = """append clear copy count endswith extend find get index insert isalnum isalpha isdigit islower isspace
isupper items join keys ljust lower lstrip partition pop remove replace reverse rfind rjust rpartition rsplit rstrip
setdefault split splitlines startswith strip update upper values zfill bit_length add discard __init__""".split()
FORBIDDEN = (ast.Global, ast.AsyncFunctionDef, ast.Await, ast.Div, ast.Import)
# The interface, by the files under which the document lists it.
INTERFACE = {
    "errors": "OrderError BadText BadTree TooGreat BadAct BadAsk NothingDone NameMissing UnknownName",
    "words": "is_name is_integer is_number",
    "books": "check_saying check_book check_placing check_order",
    "sheets": "check_sheet moments_of number_of stretch_ends line_named",
    "layouts": "line_sayings book_of_sheet lines_of",
    "lexemes": "lexemes",
    "sheettexts": "sheet_text line_text term_text read_line read_term read_sheet",
    "placings": "keeps keeps_book broken first_broken order_of is_idle parting",
    "orders": "orders how_many number_of_order order_at left_of left_order spreads",
    "sides": "turned mirrored renamed turned_book renamed_book beside together",
    "derivations": "closed laps derivation judge_derivation",
    "leanings": "leaned uses grafted turned_derivation",
    "settled": "classes told_placing placing_against given_by follows settle can_keep keep judge_settled what_can_be",
    "rings": "broken_by against_all ring_of judge_ring",
    "alike": "follows_all first_apart are_alike",
    "ways": "way_words way_named way_order way_of turned turned_lot about_lot",
    "together": "together together_lots threes three_placed",
    "waylots": "is_said is_clear is_plain hull_of_lot refusing_saying sayings_of_lot",
    "labels": "way_book label placing_with label_paper judge_label",
    "narrowing": "first_table narrowed_by narrow_table narrowing_paper judge_narrowing",
    "scenes": "label_table scene_of told_scene",
    "ordersets": "refusing witnesses judge_witnesses hull passes book_of said",
    "sharp": "tells sharp",
    "forgetting": "lifted shown_by can_fill shown_orders filling judge_filling refusal judge_refusal",
    "forgotten": "follows_kept sharp_book judge_forgotten",
    "whys": "book_of_lot least_lots greatest_lots judge_least judge_greatest",
    "whytrees": "full_why judge_why",
    "thinning": "spare thin_lot judge_thin difference judge_difference likeness judge_likeness",
    "desk": "Desk",
    "console": "Console",
}
# The methods that it lists for its classes.
METHODS_LISTED = {
    "desk": ("Desk", "sheet act_word do undo redo acts can placed follows between ways work mark since marks twin"),
    "console": ("Console", "answer"),
}
# Calls in which a generator expression may stand.
TAKING = ("list", "tuple", "dict", "sorted", "sum", "min", "max", "any", "all")


def nodes(*kinds):
    for name, tree in TREES.items():
        for node in ast.walk(tree):
            if isinstance(node, kinds):
                yield name, node


class Language(unittest.TestCase):
    def test_files(self):
        self.assertIn("__init__", FILES)
        for path in FOLDER.iterdir():
            self.assertTrue(path.name == "__pycache__" or path.suffix == ".py", path)

    def test_characters_and_sizes(self):
        for name, text in FILES.items():
            self.assertTrue(all(sign == "\n" or " " <= sign <= "~" for sign in text), name)
            self.assertLess(len(text.split("\n")), 400, name)
            self.assertLessEqual(max(len(line) for line in text.split("\n")), 120, name)
        for name, node in nodes(ast.FunctionDef):
            self.assertLessEqual(node.end_lineno - node.lineno + 1, 40, (name, node.name))

    def test_what_is_not_in_the_language(self):
        for name, node in nodes(*FORBIDDEN):
            self.fail((name, node.lineno))
        for name, node in nodes(ast.FunctionDef, ast.ClassDef):
            self.assertEqual(node.decorator_list, [], (name, node.name))
        for name, node in nodes(ast.Constant):
            self.assertNotIsInstance(node.value, float, (name, node.lineno))

    def test_imports_are_from_the_package_and_name_the_file_that_defines(self):
        for name, node in nodes(ast.ImportFrom):
            package, _, file = node.module.partition(".")
            self.assertEqual(package, "soonerornot", name)
            defined = {part.name for part in TREES[file].body if isinstance(part, (ast.FunctionDef, ast.ClassDef))}
            defined |= {part.targets[0].id for part in TREES[file].body if isinstance(part, ast.Assign)}
            for one in node.names:
                self.assertIn(one.name, defined, name)
                self.assertIsNone(one.asname, name)

    def test_only_the_builtins_and_methods_that_the_language_has(self):
        own = {node.name for _, node in nodes(ast.FunctionDef)}
        stored = {node.attr for _, node in nodes(ast.Attribute) if isinstance(node.ctx, ast.Store)}
        for name, node in nodes(ast.Name):
            if hasattr(builtins, node.id):
                self.assertIn(node.id, BUILTINS, (name, node.lineno))
                self.assertIsInstance(node.ctx, ast.Load, (name, node.lineno))
        for name, node in nodes(ast.Attribute):
            self.assertTrue(node.attr in METHODS or node.attr in own or node.attr in stored, (name, node.attr))

    def test_no_variable_has_the_name_of_a_class_or_an_import_of_its_file(self):
        for name, tree in TREES.items():
            taken = {one.name for part in tree.body if isinstance(part, ast.ImportFrom) for one in part.names}
            taken |= {part.name for part in tree.body if isinstance(part, ast.ClassDef)}
            for node in ast.walk(tree):
                if isinstance(node, ast.arg):
                    self.assertNotIn(node.arg, taken, (name, node.lineno))
                elif isinstance(node, ast.Name) and isinstance(node.ctx, ast.Store):
                    self.assertNotIn(node.id, taken, (name, node.lineno))

    def test_generators_and_sets_stand_where_they_may(self):
        for name, tree in TREES.items():
            right = set()
            for node in ast.walk(tree):
                if isinstance(node, ast.Call) and isinstance(node.func, ast.Name) and len(node.args) == 1:
                    if node.func.id in TAKING:
                        right.add((node.args[0].lineno, node.args[0].col_offset))
                    if node.func.id in ("sorted", "len"):
                        right.add((node.args[0].lineno, node.args[0].col_offset))
                elif isinstance(node, ast.Assign) and isinstance(node.targets[0], ast.Name):
                    right.add((node.value.lineno, node.value.col_offset))
            for node in ast.walk(tree):
                is_set = isinstance(node, ast.Call) and isinstance(node.func, ast.Name) and node.func.id == "set"
                if isinstance(node, (ast.GeneratorExp, ast.SetComp)) or is_set:
                    self.assertIn((node.lineno, node.col_offset), right, (name, node.lineno))

    def test_module_level(self):
        for name, tree in TREES.items():
            for part in tree.body:
                if isinstance(part, ast.Expr):
                    self.assertIsInstance(part.value, ast.Constant, (name, part.lineno))
                else:
                    self.assertIsInstance(part, (ast.ImportFrom, ast.FunctionDef, ast.ClassDef, ast.Assign),
                                          (name, part.lineno))
                if isinstance(part, ast.Assign):
                    ast.literal_eval(part.value)

    def test_no_two_files_import_from_each_other(self):
        above = {name: {node.module.partition(".")[2] for node in tree.body if isinstance(node, ast.ImportFrom)}
                 for name, tree in TREES.items()}
        while above:
            free = [name for name in above if not above[name] & set(above)]
            self.assertTrue(free, above)
            above = {name: above[name] for name in above if name not in free}

    def test_the_interface_stands_in_its_files(self):
        for file, names in INTERFACE.items():
            defined = [part.name for part in TREES[file].body if isinstance(part, (ast.FunctionDef, ast.ClassDef))]
            for one in names.split():
                self.assertEqual(defined.count(one), 1, (file, one))

    def test_the_methods_stand_in_their_classes(self):
        for file, (name, methods) in METHODS_LISTED.items():
            owner = next(part for part in TREES[file].body if isinstance(part, ast.ClassDef) and part.name == name)
            defined = [part.name for part in owner.body if isinstance(part, ast.FunctionDef)]
            for one in methods.split():
                self.assertEqual(defined.count(one), 1, (name, one))

    def test_no_name_is_a_method_and_an_attribute(self):
        methods = {node.name for _, owner in nodes(ast.ClassDef) for node in owner.body
                   if isinstance(node, ast.FunctionDef)}
        stored = {node.attr for _, node in nodes(ast.Attribute) if isinstance(node.ctx, ast.Store)}
        self.assertFalse(methods & stored)

    def test_the_names_of_caught_errors(self):
        for name, node in nodes(ast.FunctionDef):
            caught = [one.name for one in ast.walk(node) if isinstance(one, ast.ExceptHandler) and one.name]
            others = [one.id for one in ast.walk(node) if isinstance(one, ast.Name) and isinstance(one.ctx, ast.Store)]
            self.assertEqual(len(set(caught)), len(caught), (name, node.name))
            self.assertFalse(set(caught) & {*others, *(one.arg for one in node.args.args)}, (name, node.name))


if __name__ == "__main__":
    unittest.main()
