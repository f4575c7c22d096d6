"""The package's files keep to their small part of Python."""

import ast
import pathlib
import re
import unittest

PACKAGE = pathlib.Path(__file__).resolve().parent.parent / "wordpicker"
FILES = sorted(PACKAGE.rglob("*.py"))
STATEMENTS = (
    ast.Assign, ast.AugAssign, ast.If, ast.While, ast.For, ast.Return, ast.Break, ast.Continue, ast.Pass, ast.Expr,
    ast.FunctionDef, ast.ClassDef, ast.ImportFrom,
)
EXPRESSIONS = (
    ast.Constant, ast.Name, ast.List, ast.Tuple, ast.Dict, ast.BinOp, ast.UnaryOp, ast.BoolOp, ast.Compare,
    ast.IfExp, ast.Call, ast.Attribute, ast.Subscript, ast.Slice, ast.ListComp,
)
PYTHONS_OWN = ["abs", "len", "list", "max", "min", "range", "sorted", "sum", "zip"]
WORDS = (
    "type typing typing_extensions enum Enum IntEnum StrEnum Flag IntFlag Generic Protocol ABC ABCMeta namedtuple "
    "NamedTuple TypedDict TYPE_CHECKING abstractmethod"
).split()


def text_of(file):
    return file.read_text(encoding="utf-8")


def nodes_of(file):
    return list(ast.walk(ast.parse(text_of(file))))


def bound_names(nodes):
    names = [node.id for node in nodes if isinstance(node, ast.Name) and isinstance(node.ctx, ast.Store)]
    names += [node.name for node in nodes if isinstance(node, (ast.FunctionDef, ast.ClassDef))]
    return names + [node.arg for node in nodes if isinstance(node, ast.arg)]


class Form(unittest.TestCase):
    def test_nothing_but_python_files_lies_there(self):
        for path in PACKAGE.rglob("*"):
            if "__pycache__" not in path.parts:
                self.assertRegex(path.name, r"^[a-z0-9_]+(\.py)?$")
                self.assertTrue(path.is_dir() or path.suffix == ".py", path)

    def test_signs_and_sizes(self):
        for file in FILES:
            rows = text_of(file).split("\n")
            self.assertLess(len(rows), 400, file)
            for row in rows:
                self.assertRegex(row, r"^[ -~]{0,120}$", file)

    def test_defs_are_short(self):
        for file in FILES:
            for node in nodes_of(file):
                if isinstance(node, ast.FunctionDef):
                    self.assertLessEqual(node.end_lineno - node.lineno + 1, 40, (file, node.name))
                    self.assertEqual(node.decorator_list, [])

    def test_statements_and_expressions(self):
        for file in FILES:
            for node in nodes_of(file):
                if isinstance(node, ast.stmt):
                    self.assertIsInstance(node, STATEMENTS, (file, node.lineno))
                if isinstance(node, ast.expr):
                    self.assertIsInstance(node, EXPRESSIONS, (file, node.lineno))
                if isinstance(node, (ast.For, ast.While)):
                    self.assertEqual(node.orelse, [], (file, node.lineno))
                if isinstance(node, ast.BinOp):
                    self.assertNotIsInstance(node.op, (ast.Div, ast.Pow, ast.MatMult), (file, node.lineno))

    def test_only_its_own_files_are_imported(self):
        own = ["wordpicker." + file.stem for file in FILES]
        for file in FILES:
            for node in nodes_of(file):
                if isinstance(node, ast.ImportFrom):
                    self.assertIn(node.module, own, file)
                    self.assertEqual(node.level, 0, file)

    def test_names(self):
        for file in FILES:
            nodes = nodes_of(file)
            imported = [alias.name for node in nodes if isinstance(node, ast.ImportFrom) for alias in node.names]
            bound = bound_names(nodes)
            for name in bound:
                self.assertRegex(name, r"^([A-Za-z][A-Za-z0-9_]*|__init__)$", file)
                self.assertNotIn(name, imported, file)
                self.assertNotIn(name, dir(__builtins__) if not isinstance(__builtins__, dict) else __builtins__, file)
            for node in nodes:
                if isinstance(node, ast.Name):
                    self.assertIn(node.id, bound + imported + PYTHONS_OWN, (file, node.lineno))

    def test_words_that_stand_nowhere(self):
        for file in FILES:
            found = re.findall(r"[A-Za-z_]+", text_of(file))
            self.assertEqual([word for word in found if word in WORDS], [], file)


if __name__ == "__main__":
    unittest.main()
