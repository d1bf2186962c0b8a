"""What holds for every function: it is there as named, and prints, reads, imports and keeps nothing."""

import ast
import contextlib
import inspect
import io
import pathlib
import unittest

import fewsumsdesk.ways

FOLDER = pathlib.Path(fewsumsdesk.ways.__file__).parent
# Each function of the interface, its arguments' names, some arguments, and what is answered to these.
CALLS = (
    ("is_way", ["c"], ([1, 2, 4, 5, 8],), [1]),
    ("first", ["n"], (23,), [6, 1, 2, 3, 5, 10, 13, 23]),
    ("several", ["l"], ([24, 23, 6],), [8]),
    ("vector", ["l"], ([2, 3, 4],), [5]),
    ("either", ["n"], (19,), [6]),
    ("binary", ["n"], (23,), [7, 1, 2, 4, 5, 10, 11, 22, 23]),
    ("join", ["a", "b"], ([1, 2, 3], [1, 2, 4, 5, 8]), [6, 1, 2, 3, 6, 12, 15, 24]),
    ("brauer", ["c"], ([1, 2, 3, 5],), [7, 1, 2, 3, 6, 7, 14, 28, 31]),
    ("power", ["base", "m", "c"], (2, 100, [1, 2, 4, 5, 8]), [4, 2, 4, 16, 32, 56]),
)


class Package(unittest.TestCase):
    def test_each_function_has_its_name_and_arguments(self):
        for name, names, arguments, answer in CALLS:
            with self.subTest(name=name):
                call = getattr(fewsumsdesk.ways, name)
                parameters = inspect.signature(call).parameters.values()
                self.assertEqual([parameter.name for parameter in parameters], names)
                self.assertEqual({parameter.default for parameter in parameters}, {inspect.Parameter.empty})
                self.assertEqual(call(*arguments), answer)
                self.assertEqual(call(**dict(zip(names, arguments))), answer)

    def test_no_call_changes_what_another_answers(self):
        for earlier, _, earlier_arguments, _ in CALLS:
            for later, _, later_arguments, answer in CALLS:
                with self.subTest(earlier=earlier, later=later):
                    # What comes of an answer is its taker's affair, and is not to be seen in a later one.
                    getattr(fewsumsdesk.ways, earlier)(*earlier_arguments).clear()
                    self.assertEqual(getattr(fewsumsdesk.ways, later)(*later_arguments), answer)

    def test_prints_nothing(self):
        for name, _, arguments, _ in CALLS:
            out, err = io.StringIO(), io.StringIO()
            with contextlib.redirect_stdout(out), contextlib.redirect_stderr(err):
                getattr(fewsumsdesk.ways, name)(*arguments)
            self.assertEqual((out.getvalue(), err.getvalue()), ("", ""))

    def test_reads_and_imports_nothing(self):
        files = sorted(FOLDER.glob("*.py"))
        self.assertIn(FOLDER / "ways.py", files)
        for file in files:
            for node in ast.walk(ast.parse(file.read_text(encoding="utf-8"))):
                self.assertNotIsInstance(node, (ast.Import, ast.ImportFrom), file.name)
                if isinstance(node, ast.Name):
                    self.assertNotIn(node.id, ("print", "open", "input", "eval", "exec", "__import__"), file.name)


if __name__ == "__main__":
    unittest.main()
