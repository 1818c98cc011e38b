"""What the package's files may hold: no import, nothing printed or read, and their size and signs."""

import ast
import pathlib
import re
import unittest

PACKAGE = pathlib.Path(__file__).resolve().parent.parent / "worthmost"
ALLOWED = (
    "len range enumerate zip min max sum abs sorted reversed int str bool list tuple dict set isinstance "
    "ord repr any all divmod"
).split()
METHODS = (
    "append clear copy count endswith extend find get index insert items join keys lower pop remove replace reverse "
    "setdefault split strip update upper values bit_length"
).split()
WORDS = "type typing enum Enum Flag Generic Protocol ABC namedtuple dataclass overload contextmanager".split()
STATEMENTS = (
    ast.Assign, ast.If, ast.While, ast.For, ast.Return, ast.Break, ast.Continue, ast.Pass,
    ast.Expr, ast.FunctionDef, ast.ClassDef,
)


def files():
    return sorted(path for path in PACKAGE.rglob("*") if path.is_file() and "__pycache__" not in path.parts)


def nodes(path):
    return list(ast.walk(ast.parse(path.read_text(encoding="utf-8"))))


class Form(unittest.TestCase):

    def test_only_python_files(self):
        self.assertEqual([path.name for path in files()], ["__init__.py", "ends.py"])

    def test_signs_and_sizes(self):
        for path in files():
            text = path.read_text(encoding="utf-8")
            rows = text.split("\n")
            self.assertLessEqual(len(rows), 400)
            self.assertLessEqual(max(len(row) for row in rows), 120)
            self.assertEqual([sign for sign in text if sign != "\n" and not " " <= sign <= "~"], [])

    def test_functions_have_at_most_forty_lines(self):
        for path in files():
            for node in nodes(path):
                if isinstance(node, ast.FunctionDef):
                    self.assertLessEqual(node.end_lineno - node.lineno + 1, 40, node.name)
                    self.assertEqual(node.decorator_list, [])

    def test_only_plain_statements_and_no_import(self):
        for path in files():
            for node in nodes(path):
                if isinstance(node, ast.stmt):
                    self.assertIsInstance(node, STATEMENTS)
                if isinstance(node, ast.Assign):
                    self.assertEqual(len(node.targets), 1)

    def test_only_own_methods_and_those_that_are_allowed(self):
        for path in files():
            own = {node.name for node in nodes(path) if isinstance(node, ast.FunctionDef)}
            called = [node.func for node in nodes(path) if isinstance(node, ast.Call)]
            used = {func.attr for func in called if isinstance(func, ast.Attribute)}
            self.assertEqual(used - own - set(METHODS), set())

    def test_words_that_stand_nowhere(self):
        for path in files():
            words = set(re.findall("[A-Za-z_]+", path.read_text(encoding="utf-8")))
            self.assertEqual(words & set(WORDS), set())

    def test_only_own_names_and_those_that_are_allowed(self):
        for path in files():
            known = set(ALLOWED)
            for node in nodes(path):
                if isinstance(node, (ast.FunctionDef, ast.ClassDef)):
                    known.add(node.name)
                if isinstance(node, ast.arg):
                    known.add(node.arg)
                if isinstance(node, ast.Name) and isinstance(node.ctx, ast.Store):
                    self.assertNotIn(node.id, ALLOWED)
                    known.add(node.id)
            used = {node.id for node in nodes(path) if isinstance(node, ast.Name)}
            self.assertEqual(used - known, set())
