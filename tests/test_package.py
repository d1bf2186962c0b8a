"""What holds for every function: it prints, reads and imports nothing."""

import ast
import contextlib
import io
import pathlib
import unittest

import fewsumsdesk.ways

FOLDER = pathlib.Path(fewsumsdesk.ways.__file__).parent
CALLS = (
    (fewsumsdesk.ways.is_way, ([1, 2, 4, 5, 8],)),
    (fewsumsdesk.ways.first, (23,)),
    (fewsumsdesk.ways.several, ([23, 7, 11],)),
    (fewsumsdesk.ways.vector, ([2, 3, 4],)),
    (fewsumsdesk.ways.either, (19,)),
    (fewsumsdesk.ways.binary, (23,)),
    (fewsumsdesk.ways.join, ([1, 2, 3], [1, 2, 4, 5, 8])),
    (fewsumsdesk.ways.brauer, ([1, 2, 3, 5],)),
)


class Package(unittest.TestCase):
    def test_prints_nothing(self):
        for call, arguments in CALLS:
            out, err = io.StringIO(), io.StringIO()
            with contextlib.redirect_stdout(out), contextlib.redirect_stderr(err):
                call(*arguments)
            self.assertEqual((out.getvalue(), err.getvalue()), ("", ""))

    def test_reads_and_imports_nothing(self):
        files = sorted(FOLDER.glob("*.py"))
        self.assertIn(FOLDER / "ways.py", files)
        for file in files:
            for node in ast.walk(ast.parse(file.read_text(encoding="utf-8"))):
                self.assertNotIsInstance(node, (ast.Import, ast.ImportFrom), file.name)
                if isinstance(node, ast.Name):
                    self.assertNotIn(node.id, ("print", "open", "input", "eval", "exec", "__import__"), file.name)


if __name__ == "__main__":
    unittest.main()
