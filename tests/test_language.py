"""The rules of the language subset that can be told from the files alone, as far as they are short to say."""

import ast
import builtins
import pathlib
import re
import unittest
import warnings

PACKAGE = pathlib.Path(__file__).resolve().parent.parent / "wroteback"

BUILTINS = set("""
len range enumerate zip min max sum abs sorted reversed int str bool list tuple dict set isinstance ord repr any all
divmod map iter next property super Exception ValueError TypeError KeyError IndexError LookupError
""".split())
METHODS = set("""
append clear copy count endswith extend find get index insert isalnum isalpha isdigit islower isspace isupper items
join keys ljust lower lstrip partition pop remove replace reverse rfind rjust rpartition rsplit rstrip setdefault
split splitlines startswith strip update upper values zfill bit_length add discard
""".split())
LIBRARY = {"heapq", "math", "itertools", "collections"}
# The package has classes with __eq__, so that these take a list.
TAKE_LISTS = {"any", "all", "min", "max", "sum", "sorted"}
BARRED_STATEMENTS = (ast.Global, ast.AsyncFunctionDef, ast.AsyncFor, ast.AsyncWith)


def parsed_files():
    return [(path, ast.parse(path.read_text(encoding="utf-8"))) for path in sorted(PACKAGE.rglob("*.py"))]


def all_nodes(*kinds):
    return [
        (f"{path.name}:{node.lineno}", node) for path, tree in parsed_files() for node in ast.walk(tree)
        if isinstance(node, kinds)
    ]


class Language(unittest.TestCase):
    def test_the_folder_holds_nothing_else(self):
        for path in PACKAGE.rglob("*"):
            if "__pycache__" not in path.parts:
                self.assertRegex(path.name, r"^[a-z0-9_]+\.py$")
        self.assertTrue((PACKAGE / "__init__.py").is_file())

    def test_sizes_and_characters(self):
        for path, _ in parsed_files():
            text = path.read_text(encoding="utf-8")
            self.assertIsNone(re.search("[^ -~\n]", text), path.name)
            self.assertLessEqual(len(text.splitlines()), 399, path.name)
            self.assertLessEqual(max(map(len, text.splitlines()), default=0), 120, path.name)
        for place, node in all_nodes(ast.FunctionDef):
            self.assertLessEqual(node.end_lineno - node.lineno + 1, 40, place)

    def test_python_gives_no_warning(self):
        with warnings.catch_warnings():
            warnings.simplefilter("error")
            for path, _ in parsed_files():
                compile(path.read_text(encoding="utf-8"), path.name, "exec")

    def test_imports(self):
        self.assertEqual([place for place, _ in all_nodes(ast.Import)], [])
        for place, node in all_nodes(ast.ImportFrom):
            self.assertEqual(node.level, 0, place)
            self.assertIn(node.module.split(".")[0], LIBRARY | {"wroteback"}, place)
            self.assertNotIn("*", [name.name for name in node.names], place)

    def test_builtins(self):
        for place, node in all_nodes(ast.Name):
            if hasattr(builtins, node.id):
                self.assertIn(node.id, BUILTINS, place)
                self.assertIsInstance(node.ctx, ast.Load, place)
        for place, node in all_nodes(ast.arg):
            self.assertFalse(hasattr(builtins, node.arg), place)

    def test_methods(self):
        own = {node.name for _, node in all_nodes(ast.FunctionDef)}
        for place, node in all_nodes(ast.Call):
            if isinstance(node.func, ast.Attribute):
                self.assertIn(node.func.attr, METHODS | own, place)

    def test_no_variable_has_the_name_of_an_import_or_class(self):
        for path, tree in parsed_files():
            named = {name.name for node in tree.body if isinstance(node, ast.ImportFrom) for name in node.names}
            named |= {node.name for node in tree.body if isinstance(node, ast.ClassDef)}
            for node in ast.walk(tree):
                if isinstance(node, ast.arg):
                    self.assertNotIn(node.arg, named, path.name)
                elif isinstance(node, ast.Name) and not isinstance(node.ctx, ast.Load):
                    self.assertNotIn(node.id, named, path.name)

    def test_generator_expressions(self):
        for place, node in all_nodes(ast.Call):
            if isinstance(node.func, ast.Name) and node.func.id in TAKE_LISTS:
                self.assertFalse(any(isinstance(given, ast.GeneratorExp) for given in node.args), place)

    def test_statements_and_signs(self):
        self.assertEqual([place for place, _ in all_nodes(*BARRED_STATEMENTS)], [])
        for place, node in all_nodes(ast.BinOp, ast.AugAssign):
            self.assertNotIsInstance(node.op, (ast.Div, ast.MatMult), place)
        for place, node in all_nodes(ast.Constant):
            self.assertNotIsInstance(node.value, (float, complex), place)
        for place, node in all_nodes(ast.FunctionDef, ast.ClassDef):
            self.assertTrue(all(isinstance(over, (ast.Name, ast.Attribute)) for over in node.decorator_list), place)

    def test_identity_is_asked_of_constants_only(self):
        for place, node in all_nodes(ast.Compare):
            for sign, right in zip(node.ops, node.comparators):
                if isinstance(sign, (ast.Is, ast.IsNot)):
                    self.assertIsInstance(right, ast.Constant, place)

    def test_the_interface_is_defined_in_its_files(self):
        for name, listed in (
            ("writers", ["Writer", "write_row", "stands_of"]),
            ("judging", ["delay", "word", "ranks", "shows", "alike", "lost_rows"]),
            ("reading", ["count_rows", "stands_after", "sure", "row_to", "back"]),
            ("census", ["census"]),
            ("readers", ["Reader"]),
            ("texts", ["write", "read"]),
            ("likes", ["first_unlike", "smallest", "joined"]),
            ("sets", ["least_never", "count_written", "first_more"]),
            ("wrong", ["fewest_wrong", "mended", "gap", "whole_gap", "letters_for"]),
            ("told", ["tables_for", "sure_next"]),
        ):
            tree = ast.parse((PACKAGE / f"{name}.py").read_text(encoding="utf-8"))
            defined = {node.name for node in tree.body if isinstance(node, (ast.FunctionDef, ast.ClassDef))}
            self.assertLessEqual(set(listed), defined)


if __name__ == "__main__":
    unittest.main()
