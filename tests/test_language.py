"""Looks at the package's files for what the language rules forbid, as far as that is seen at a glance."""

import ast
import builtins
import pathlib
import unittest

FOLDER = pathlib.Path(__file__).resolve().parent.parent / "soonerornot"
FILES = {path.stem: path.read_text() for path in sorted(FOLDER.glob("*.py"))}
TREES = {name: ast.parse(text) for name, text in FILES.items()}

BUILTINS = """len range enumerate zip min max sum abs sorted reversed int str bool list tuple dict set isinstance ord
repr any all divmod ValueError LookupError TypeError KeyError IndexError""".split()
METHODS = """append clear copy count endswith extend find get index insert isalnum isalpha isdigit islower isspace
isupper items join keys ljust lower lstrip partition pop remove replace reverse rfind rjust rpartition rsplit rstrip
setdefault split splitlines startswith strip update upper values zfill bit_length add discard __init__""".split()
FORBIDDEN = (ast.Global, ast.AsyncFunctionDef, ast.Await, ast.Div, ast.Import)
# The interface, by the files under which the document lists it.
INTERFACE = {
    "errors": "OrderError BadText BadTree TooGreat BadAct BadAsk NothingDone NameMissing UnknownName",
    "words": "is_name is_integer is_number",
    "books": "check_saying check_book check_placing check_order",
    "sheets": "check_sheet moments_of number_of stretch_ends line_named",
    "layouts": "line_sayings book_of_sheet lines_of",
    "lexemes": "lexemes",
    "sheettexts": "sheet_text line_text term_text read_line read_term read_sheet",
    "placings": "keeps keeps_book broken first_broken order_of is_idle parting",
    "orders": "orders how_many number_of_order order_at left_of left_order spreads",
    "sides": "turned mirrored renamed turned_book renamed_book beside together",
}


def nodes(*kinds):
    for name, tree in TREES.items():
        for node in ast.walk(tree):
            if isinstance(node, kinds):
                yield name, node


class Language(unittest.TestCase):
    def test_files(self):
        self.assertIn("__init__", FILES)
        for path in FOLDER.iterdir():
            self.assertTrue(path.name == "__pycache__" or path.suffix == ".py", path)

    def test_characters_and_sizes(self):
        for name, text in FILES.items():
            self.assertTrue(all(sign == "\n" or " " <= sign <= "~" for sign in text), name)
            self.assertLess(len(text.split("\n")), 400, name)
            self.assertLessEqual(max(len(line) for line in text.split("\n")), 120, name)
        for name, node in nodes(ast.FunctionDef):
            self.assertLessEqual(node.end_lineno - node.lineno + 1, 40, (name, node.name))

    def test_what_is_not_in_the_language(self):
        for name, node in nodes(*FORBIDDEN):
            self.fail((name, node.lineno))
        for name, node in nodes(ast.FunctionDef, ast.ClassDef):
            self.assertEqual(node.decorator_list, [], (name, node.name))
        for name, node in nodes(ast.Constant):
            self.assertNotIsInstance(node.value, float, (name, node.lineno))

    def test_imports_are_from_the_package_and_name_the_file_that_defines(self):
        for name, node in nodes(ast.ImportFrom):
            package, _, file = node.module.partition(".")
            self.assertEqual(package, "soonerornot", name)
            defined = {part.name for part in TREES[file].body if isinstance(part, (ast.FunctionDef, ast.ClassDef))}
            defined |= {part.targets[0].id for part in TREES[file].body if isinstance(part, ast.Assign)}
            for one in node.names:
                self.assertIn(one.name, defined, name)
                self.assertIsNone(one.asname, name)

    def test_only_the_builtins_and_methods_that_the_language_has(self):
        own = {node.name for _, node in nodes(ast.FunctionDef)}
        stored = {node.attr for _, node in nodes(ast.Attribute) if isinstance(node.ctx, ast.Store)}
        for name, node in nodes(ast.Name):
            if hasattr(builtins, node.id):
                self.assertIn(node.id, BUILTINS, (name, node.lineno))
                self.assertIsInstance(node.ctx, ast.Load, (name, node.lineno))
        for name, node in nodes(ast.Attribute):
            self.assertTrue(node.attr in METHODS or node.attr in own or node.attr in stored, (name, node.attr))

    def test_the_interface_stands_in_its_files(self):
        for file, names in INTERFACE.items():
            defined = [part.name for part in TREES[file].body if isinstance(part, (ast.FunctionDef, ast.ClassDef))]
            for one in names.split():
                self.assertEqual(defined.count(one), 1, (file, one))


if __name__ == "__main__":
    unittest.main()
