"""What the document promises over the whole program."""

import builtins
import contextlib
import copy
import doctest
import inspect
import io
import pathlib
import subprocess
import sys
import unittest
from unittest import mock

from runpictures import boards, lines, pictures, squares
from tests.helper import EITHER, Untouched, longest, one_in_each, puzzle_of, shared_out, told

ROOT = pathlib.Path(__file__).resolve().parent.parent
FILES = (boards, lines, pictures, squares)
CHECKED = [[1 + (row + column) % 2 for column in range(64)] for row in range(64)]

# Of each function calls that go as far as its input can: long lists, many squares, much to look through.
CALLS = [
    (squares.line, ([1, 1, 1, 2] * 32, [255] * 64)),
    (squares.line, ([1, 1] * 20, [255] * 64)),
    (squares.line, ([1, 1] * 65, [255] * 64)),
    (squares.line, ([1, 1] * 8200, [255] * 16400)),
    (squares.look, (longest(),)),
    (squares.look, ([1] * 16400,)),
    (squares.follow, (puzzle_of([[0] * 64] * 64), [255] * 4096)),
    (squares.follow, (puzzle_of([row[:60] for row in CHECKED[:60]]), [255] * 16384)),
    (squares.follow, (longest(), [255] * 4096)),
    (squares.picture, (one_in_each(12), [255] * 144, 1000000)),
    (squares.picture, (told(*shared_out(32, 16)), [3] * 128, 1000000)),
    (squares.picture, (told(*reversed(shared_out(32, 16))), [3] * 16384, 1000000)),
    (squares.count, (one_in_each(12), [255] * 144, 1000000)),
    (squares.count, (told(*shared_out(32, 16)), [3] * 128, 1000000)),
    (squares.count, (EITHER, [3] * 16384, 1000000)),
    (squares.tell, ([square for row in CHECKED for square in row], [64, 64], 16384)),
    (squares.tell, ([square for row in CHECKED[:63] for square in row], [64, 63], 16384)),
    (squares.tell, ([0] * 4096, [64, 64], 16384)),
]


def kept_at_the_top():
    """All that the files of the package hold at their top but their functions."""
    return [{name: copy.deepcopy(value) for name, value in vars(file).items()
             if not name.startswith("__") and not inspect.isfunction(value)} for file in FILES]


@contextlib.contextmanager
def at_most_deep(calls):
    """Refuses calls that are nested so much deeper than here."""
    before = sys.getrecursionlimit()
    sys.setrecursionlimit(len(inspect.stack(0)) + calls)
    try:
        yield
    finally:
        sys.setrecursionlimit(before)


class TheInterface(unittest.TestCase):
    def test_the_functions_and_their_arguments(self):
        for name, arguments in (("line", ["runs", "cells"]), ("look", ["puzzle"]), ("follow", ["puzzle", "cells"]),
                                ("picture", ["puzzle", "cells", "k"]), ("count", ["puzzle", "cells", "most"]),
                                ("tell", ["squares", "sides", "most"])):
            self.assertEqual(inspect.getfullargspec(getattr(squares, name)).args, arguments)

    def test_the_examples_of_the_readme(self):
        done = doctest.testfile(str(ROOT / "README.md"), module_relative=False)
        self.assertEqual(done.failed, 0)
        self.assertGreaterEqual(done.attempted, 12)


class EachCallByItself(unittest.TestCase):
    def test_what_is_handed_in_is_not_changed(self):
        for function, call in CALLS:
            given = [Untouched(value) if isinstance(value, list) else value for value in call]
            function(*given)
            self.assertEqual(given, list(call), function)

    def test_nothing_is_kept_from_one_call_to_the_next(self):
        before = kept_at_the_top()
        first = [function(*call) for function, call in CALLS]
        self.assertEqual(kept_at_the_top(), before)
        second = [function(*call) for function, call in reversed(CALLS)]
        self.assertEqual(first, second[::-1])
        for file in FILES:
            for name, function in inspect.getmembers(file, inspect.isfunction):
                self.assertEqual((function.__defaults__, function.__closure__), (None, None), name)

    def test_no_call_is_nested_deep(self):
        for function, call in CALLS:
            expected = function(*call)
            with at_most_deep(30):
                answer = function(*call)
            self.assertEqual(answer, expected)

    def test_nothing_is_printed_or_read(self):
        said = io.StringIO()
        refused = mock.Mock(side_effect=AssertionError("the program reaches out"))
        with contextlib.redirect_stdout(said), contextlib.redirect_stderr(said):
            with mock.patch.multiple(builtins, open=refused, print=refused, input=refused):
                for function, call in CALLS:
                    function(*call)
        self.assertEqual(said.getvalue(), "")


class FromOutside(unittest.TestCase):
    def test_nothing_is_imported_from_outside_the_package(self):
        # In a Python of its own, where nothing else has been imported yet.
        program = "\n".join([
            "import sys",
            "before = set(sys.modules)",
            "sys.path.insert(0, %r)" % str(ROOT),
            "from runpictures.squares import line, look, follow, picture, count, tell",
            "puzzle = %r" % EITHER,
            "line([1, 1], [3, 3]), look(puzzle), follow(puzzle, [3] * 4), picture(puzzle, [3] * 4, 0)",
            "count(puzzle, [3] * 4, 9), tell([0, 1, 1, 0], [2, 2], 100)",
            "print(sorted({name.split('.')[0] for name in set(sys.modules) - before}))",
        ])
        done = subprocess.run([sys.executable, "-I", "-S", "-B", "-c", program], capture_output=True, text=True,
                              timeout=60, check=True)
        self.assertEqual((done.stdout, done.stderr), ("['runpictures']\n", ""))


if __name__ == "__main__":
    unittest.main()
