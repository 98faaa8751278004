"""Tests of the package's own files: they keep to a small part of Python, and import nothing."""

import ast
import builtins
import pathlib
import re
import unittest

PACKAGE = pathlib.Path(__file__).resolve().parent.parent / "errandtext"

OWN_NAMES = """len range enumerate zip min max sum abs sorted reversed int str bool list tuple dict set frozenset
isinstance ord repr any all divmod""".split()

METHODS = """append clear copy count endswith extend find get index insert items join keys pop remove replace reverse
setdefault split startswith strip update values bit_length""".split()

CHANGES = ["append", "clear", "extend", "insert", "pop", "remove", "reverse", "setdefault", "update"]

NODES = """Module Expr Constant FunctionDef arguments arg ClassDef Assign AugAssign If While For Return Break Continue Pass
Name Load Store Attribute Call Subscript Slice List Tuple Dict ListComp comprehension IfExp BoolOp And Or UnaryOp Not USub
BinOp Add Sub Mult FloorDiv Mod Pow BitAnd BitOr BitXor LShift RShift Compare Eq NotEq Lt LtE Gt GtE In NotIn Is
IsNot""".split()

BARRED_WORDS = """type typing enum Enum Flag Generic Protocol ABC namedtuple NamedTuple TypedDict""".split()


def files():
    return sorted(path for path in PACKAGE.iterdir() if path.name != "__pycache__")


def trees():
    return [ast.parse(path.read_text()) for path in files()]


def nodes(kind):
    return [node for tree in trees() for node in ast.walk(tree) if isinstance(node, kind)]


class Files(unittest.TestCase):
    def test_only_python_files(self):
        for path in files():
            self.assertRegex(path.name, r"^[a-z_]+\.py$")
        self.assertIn("__init__.py", [path.name for path in files()])

    def test_signs_and_sizes(self):
        for path in files():
            text = path.read_bytes().decode("ascii")
            self.assertRegex(text, r"\A[\n -~]*\Z")
            lines = text.split("\n")
            self.assertLessEqual(len(lines), 400)
            self.assertLessEqual(max(len(line) for line in lines), 120)

    def test_barred_words(self):
        for path in files():
            words = re.findall(r"\w+", path.read_text())
            self.assertEqual([word for word in words if word in BARRED_WORDS], [])


class Language(unittest.TestCase):
    def test_only_plain_forms(self):
        self.assertEqual([node for node in nodes(ast.AST) if type(node).__name__ not in NODES], [])

    def test_functions_are_short(self):
        for node in nodes(ast.FunctionDef):
            self.assertLessEqual(node.end_lineno - node.lineno + 1, 40, node.name)
            self.assertEqual(node.decorator_list, [])

    def test_one_target_in_an_assignment(self):
        for node in nodes(ast.Assign):
            self.assertEqual(len(node.targets), 1)
            self.assertNotIsInstance(node.targets[0], ast.Tuple)

    def test_names(self):
        stored = {node.id for node in nodes(ast.Name) if isinstance(node.ctx, ast.Store)}
        stored |= {node.name for node in nodes((ast.FunctionDef, ast.ClassDef))}
        stored |= {node.arg for node in nodes(ast.arg)}
        for name in stored - {"__init__"}:
            self.assertRegex(name, r"^[A-Za-z][A-Za-z0-9_]*$")
            self.assertNotIn(name, dir(builtins))
        loaded = {node.id for node in nodes(ast.Name) if isinstance(node.ctx, ast.Load)}
        self.assertEqual(loaded - stored - set(OWN_NAMES), set())

    def test_methods(self):
        for node in nodes(ast.Call):
            if isinstance(node.func, ast.Attribute):
                self.assertIn(node.func.attr, METHODS)

    def test_nothing_is_kept_at_the_top(self):
        kept = {
            node.targets[0].id
            for tree in trees()
            for node in tree.body
            if isinstance(node, ast.Assign)
        }
        for node in nodes(ast.Call):
            if isinstance(node.func, ast.Attribute) and node.func.attr in CHANGES:
                self.assertNotIn(getattr(node.func.value, "id", None), kept)
        for node in nodes(ast.Subscript):
            if isinstance(node.ctx, ast.Store):
                self.assertNotIn(getattr(node.value, "id", None), kept)


if __name__ == "__main__":
    unittest.main()
