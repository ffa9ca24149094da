"""The package prints, reads and imports nothing, and keeps to its part of Python."""

import ast
import builtins
import contextlib
import io
import unittest
from pathlib import Path

from helper import COUNTS, NUMBERS
from redthings.drawing import answers

PACKAGE = Path(__file__).resolve().parent.parent / "redthings"
FILES = sorted(PACKAGE.rglob("*.py"))

OWN_NAMES_OF_PYTHON = (
    "len range enumerate zip min max sum abs sorted reversed int str bool list tuple dict set frozenset isinstance "
    "ord repr any all divmod Exception ValueError TypeError KeyError IndexError LookupError ZeroDivisionError "
    "ArithmeticError OverflowError RuntimeError NotImplementedError AttributeError StopIteration"
).split()

STATEMENTS = (
    ast.Assign, ast.AugAssign, ast.If, ast.While, ast.For, ast.Return, ast.Break, ast.Continue, ast.Pass,
    ast.Raise, ast.Try, ast.Expr, ast.FunctionDef, ast.ClassDef,
)


def nodes(path):
    return list(ast.walk(ast.parse(path.read_text(encoding="ascii"))))


class Form(unittest.TestCase):
    def test_only_python_files_lie_in_the_package(self):
        self.assertIn(PACKAGE / "__init__.py", FILES)
        self.assertIn(PACKAGE / "drawing.py", FILES)
        others = [
            path for path in PACKAGE.rglob("*")
            if path.is_file() and path.suffix != ".py" and path.parent.name != "__pycache__"]
        self.assertEqual(others, [])

    def test_nothing_is_imported(self):
        for path in FILES:
            found = [node.lineno for node in nodes(path) if isinstance(node, (ast.Import, ast.ImportFrom))]
            self.assertEqual(found, [], path)

    def test_statements(self):
        for path in FILES:
            found = [
                node.lineno for node in nodes(path)
                if isinstance(node, ast.stmt) and not isinstance(node, STATEMENTS)]
            self.assertEqual(found, [], path)

    def test_names_of_python(self):
        for path in FILES:
            for node in nodes(path):
                if isinstance(node, ast.Name) and hasattr(builtins, node.id):
                    self.assertIn(node.id, OWN_NAMES_OF_PYTHON, f"{path}:{node.lineno}")
                    self.assertIsInstance(node.ctx, ast.Load, f"{path}:{node.lineno}")

    def test_no_float_and_no_division(self):
        for path in FILES:
            for node in nodes(path):
                self.assertNotIsInstance(node, ast.Div, path)
                if isinstance(node, ast.Constant):
                    self.assertNotIsInstance(node.value, (float, complex, bytes), f"{path}:{node.lineno}")

    def test_size(self):
        for path in FILES:
            rows = path.read_text(encoding="ascii").split("\n")
            self.assertLessEqual(len(rows), 400, path)
            self.assertLessEqual(max(len(row) for row in rows), 120, path)
            self.assertFalse(any("\t" in row or "\r" in row for row in rows), path)
            for node in nodes(path):
                if isinstance(node, ast.FunctionDef):
                    self.assertLessEqual(node.end_lineno - node.lineno + 1, 40, f"{path}:{node.lineno}")


class Quiet(unittest.TestCase):
    def test_nothing_is_printed(self):
        out = io.StringIO()
        err = io.StringIO()
        with contextlib.redirect_stdout(out), contextlib.redirect_stderr(err):
            for begun in ([], [0, 24, 9]):
                for name, number in NUMBERS.items():
                    answers(begun + [number] + [1] * COUNTS[name])
        self.assertEqual((out.getvalue(), err.getvalue()), ("", ""))


if __name__ == "__main__":
    unittest.main()
