"""The package's files keep to the form that is asked of them, as far as it is plain to see."""

import ast
import builtins
import contextlib
import io
import pathlib
import re
import unittest

PACKAGE = pathlib.Path(__file__).resolve().parent.parent / "runpictures"
OWN_NAMES = """len range enumerate zip min max sum abs sorted reversed int str bool list tuple dict set isinstance
any all divmod""".split()
METHODS = """append clear copy count extend get index insert items keys pop remove reverse setdefault update values
bit_length""".split()
NODES = (ast.Module, ast.FunctionDef, ast.arguments, ast.arg, ast.Expr, ast.Assign, ast.AugAssign, ast.If, ast.While,
         ast.For, ast.Return, ast.Break, ast.Continue, ast.Pass, ast.BoolOp, ast.BinOp, ast.UnaryOp, ast.IfExp,
         ast.Dict, ast.List, ast.Tuple, ast.ListComp, ast.comprehension, ast.Compare, ast.Call, ast.Constant,
         ast.Attribute, ast.Subscript, ast.Slice, ast.Name, ast.boolop, ast.operator, ast.unaryop, ast.cmpop,
         ast.expr_context)
WORDS = r"\b(type|typing|enum|Enum|Flag|Generic|Protocol|ABC|namedtuple)\b|dataclass|overload|contextmanager"


def sources():
    return {path.name: path.read_text(encoding="utf-8") for path in sorted(PACKAGE.glob("*.py"))}


def nodes():
    for name, source in sources().items():
        for node in ast.walk(ast.parse(source)):
            yield name, node


class Form(unittest.TestCase):
    def test_the_files(self):
        self.assertEqual(list(sources()), ["__init__.py", "squares.py"])

    def test_sizes_and_signs(self):
        for name, source in sources().items():
            rows = source.split("\n")
            self.assertLessEqual(len(rows), 400, name)
            self.assertLessEqual(max(len(row) for row in rows), 120, name)
            self.assertIsNone(re.search(r"[^ -~\n]", source), name)
            self.assertIsNone(re.search(WORDS, source), name)

    def test_functions_are_short(self):
        for name, node in nodes():
            if isinstance(node, ast.FunctionDef):
                self.assertLessEqual(node.end_lineno - node.lineno + 1, 40, node.name)

    def test_only_plain_code_and_no_import(self):
        for name, node in nodes():
            self.assertIsInstance(node, NODES, (name, getattr(node, "lineno", None)))

    def test_only_plain_values(self):
        for name, node in nodes():
            if isinstance(node, ast.Constant):
                self.assertIn(type(node.value), (int, str, bool, type(None)), (name, node.lineno))
            if isinstance(node, (ast.BinOp, ast.AugAssign)):
                self.assertNotIsInstance(node.op, (ast.Div, ast.MatMult, ast.Pow), (name, node.lineno))
            if isinstance(node, ast.Assign):
                self.assertEqual(len(node.targets), 1, (name, node.lineno))
                self.assertNotIsInstance(node.targets[0], ast.Tuple, (name, node.lineno))

    def test_names_of_python_s_own(self):
        for name, node in nodes():
            if isinstance(node, ast.Name) and hasattr(builtins, node.id):
                self.assertIn(node.id, OWN_NAMES, (name, node.lineno))
                self.assertIsInstance(node.ctx, ast.Load, (name, node.lineno))
            if isinstance(node, ast.arg):
                self.assertFalse(hasattr(builtins, node.arg), (name, node.lineno))
            if isinstance(node, ast.Attribute):
                self.assertIn(node.attr, METHODS, (name, node.lineno))

    def test_no_function_calls_itself(self):
        calls = {}
        for name, node in nodes():
            if isinstance(node, ast.FunctionDef):
                calls[node.name] = {inner.id for inner in ast.walk(node) if isinstance(inner, ast.Name)}
        for start in calls:
            reached = set()
            waiting = [start]
            while waiting:
                fresh = (calls[waiting.pop()] & set(calls)) - reached
                reached |= fresh
                waiting += fresh
            self.assertNotIn(start, reached)

    def test_nothing_is_printed(self):
        said = io.StringIO()
        with contextlib.redirect_stdout(said), contextlib.redirect_stderr(said):
            for source in sources().values():
                exec(source, {})
        self.assertEqual(said.getvalue(), "")


if __name__ == "__main__":
    unittest.main()
