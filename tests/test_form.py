"""The package's files keep to the form that is asked of them, as far as it is plain to see."""

import ast
import builtins
import contextlib
import io
import pathlib
import re
import unittest

PACKAGE = pathlib.Path(__file__).resolve().parent.parent / "runpictures"
OWN_NAMES = """len range enumerate zip min max sum abs sorted reversed int str bool list tuple dict set isinstance
any all divmod""".split()
METHODS = """append clear copy count extend get index insert items keys pop remove reverse setdefault update values
bit_length""".split()
NODES = (ast.Module, ast.FunctionDef, ast.arguments, ast.arg, ast.Expr, ast.Assign, ast.AugAssign, ast.If, ast.While,
         ast.For, ast.Return, ast.Break, ast.Continue, ast.Pass, ast.BoolOp, ast.BinOp, ast.UnaryOp, ast.IfExp,
         ast.Dict, ast.List, ast.Tuple, ast.ListComp, ast.comprehension, ast.Compare, ast.Call, ast.Constant,
         ast.Attribute, ast.Subscript, ast.Slice, ast.Name, ast.boolop, ast.operator, ast.unaryop, ast.cmpop,
         ast.expr_context, ast.ImportFrom, ast.alias)
WORDS = r"\b(type|typing|enum|Enum|Flag|Generic|Protocol|ABC|namedtuple)\b|dataclass|overload|contextmanager"


def sources():
    return {path.name: path.read_text(encoding="utf-8") for path in sorted(PACKAGE.glob("*.py"))}


def nodes():
    for name, source in sources().items():
        for node in ast.walk(ast.parse(source)):
            yield name, node


def names_bound(file):
    """The functions and the plain values of a file's top."""
    for node in ast.parse(sources()[file]).body:
        if isinstance(node, ast.FunctionDef):
            yield node.name
        if isinstance(node, ast.Assign):
            yield node.targets[0].id


class Form(unittest.TestCase):
    def assertNoneReachesItself(self, reaches):
        """Holds that from none of these one comes, in however many steps, back to it."""
        for start in reaches:
            reached = set()
            waiting = [start]
            while waiting:
                fresh = (reaches[waiting.pop()] & set(reaches)) - reached
                reached |= fresh
                waiting += fresh
            self.assertNotIn(start, reached)

    def test_the_files(self):
        self.assertEqual(list(sources()), ["__init__.py", "boards.py", "lines.py", "pictures.py", "squares.py"])
        for path in PACKAGE.iterdir():
            self.assertIn(path.name, list(sources()) + ["__pycache__"])

    def test_sizes_and_signs(self):
        for name, source in sources().items():
            rows = source.split("\n")
            self.assertLessEqual(len(rows), 400, name)
            self.assertLessEqual(max(len(row) for row in rows), 120, name)
            self.assertIsNone(re.search(r"[^ -~\n]", source), name)
            self.assertIsNone(re.search(WORDS, source), name)

    def test_functions_are_short(self):
        for name, node in nodes():
            if isinstance(node, ast.FunctionDef):
                self.assertLessEqual(node.end_lineno - node.lineno + 1, 40, node.name)

    def test_only_plain_code(self):
        for name, node in nodes():
            self.assertIsInstance(node, NODES, (name, getattr(node, "lineno", None)))

    def test_only_what_another_file_defines_is_imported(self):
        for name, source in sources().items():
            for node in ast.walk(ast.parse(source)):
                if isinstance(node, ast.ImportFrom):
                    package, drawn_from = node.module.split(".")
                    self.assertEqual((package, node.level, node.col_offset), ("runpictures", 0, 0), name)
                    for alias in node.names:
                        self.assertIn(alias.name, names_bound(drawn_from + ".py"), name)
                        self.assertIsNone(alias.asname, name)

    def test_no_two_files_draw_from_one_another(self):
        self.assertNoneReachesItself({
            name: {node.module.split(".")[1] + ".py" for node in ast.walk(ast.parse(source))
                   if isinstance(node, ast.ImportFrom)}
            for name, source in sources().items()
        })

    def test_each_name_is_bound_in_one_file_alone(self):
        bound = [name for file in sources() for name in names_bound(file)]
        self.assertEqual(len(bound), len(set(bound)))

    def test_each_import_is_used(self):
        for name, source in sources().items():
            tree = ast.parse(source)
            used = {node.id for node in ast.walk(tree) if isinstance(node, ast.Name)}
            for node in ast.walk(tree):
                if isinstance(node, ast.ImportFrom):
                    self.assertLessEqual({alias.name for alias in node.names}, used, name)

    def test_only_plain_values(self):
        for name, node in nodes():
            if isinstance(node, ast.Constant):
                self.assertIn(type(node.value), (int, str, bool, type(None)), (name, node.lineno))
            if isinstance(node, (ast.BinOp, ast.AugAssign)):
                self.assertNotIsInstance(node.op, (ast.Div, ast.MatMult, ast.Pow), (name, node.lineno))
            if isinstance(node, ast.Assign):
                self.assertEqual(len(node.targets), 1, (name, node.lineno))
                self.assertNotIsInstance(node.targets[0], ast.Tuple, (name, node.lineno))

    def test_names_of_python_s_own(self):
        for name, node in nodes():
            if isinstance(node, ast.Name) and hasattr(builtins, node.id):
                self.assertIn(node.id, OWN_NAMES, (name, node.lineno))
                self.assertIsInstance(node.ctx, ast.Load, (name, node.lineno))
            if isinstance(node, ast.arg):
                self.assertFalse(hasattr(builtins, node.arg), (name, node.lineno))
            if isinstance(node, ast.Attribute):
                self.assertIn(node.attr, METHODS, (name, node.lineno))

    def test_no_function_calls_itself(self):
        calls = {}
        for name, node in nodes():
            if isinstance(node, ast.FunctionDef):
                calls[node.name] = {inner.id for inner in ast.walk(node) if isinstance(inner, ast.Name)}
        self.assertNoneReachesItself(calls)

    def test_nothing_is_printed(self):
        said = io.StringIO()
        with contextlib.redirect_stdout(said), contextlib.redirect_stderr(said):
            for source in sources().values():
                exec(source, {})
        self.assertEqual(said.getvalue(), "")


if __name__ == "__main__":
    unittest.main()
