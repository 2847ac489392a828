"""The package's files: what they hold, what they draw from, and the plain rules of their form."""

import ast
import contextlib
import io
import pathlib
import re
import unittest

import roundtripsdesk.puzzles

FOLDER = pathlib.Path(__file__).resolve().parent.parent / "roundtripsdesk"
WORDS = ("type typing typing_extensions enum Enum IntEnum StrEnum Flag IntFlag Generic Protocol ABC ABCMeta "
         "namedtuple NamedTuple TypedDict TYPE_CHECKING abstractmethod").split()
NAMES = ("print open input exec eval compile globals locals getattr setattr delattr hasattr type id vars dir "
         "chr map filter iter next object super hash format round pow").split()
NODES = (ast.Import, ast.With, ast.Match, ast.Delete, ast.Global, ast.Nonlocal, ast.Assert, ast.Yield, ast.YieldFrom,
         ast.AsyncFunctionDef, ast.Await, ast.GeneratorExp, ast.SetComp, ast.DictComp, ast.NamedExpr, ast.Starred,
         ast.Div, ast.Pow, ast.Set)


def sources():
    return {path: path.read_text(encoding="utf-8") for path in sorted(FOLDER.glob("*.py"))}


class TestPackage(unittest.TestCase):
    def test_files(self):
        names = {path.name for path in FOLDER.iterdir()} - {"__pycache__"}
        self.assertEqual(names, {"__init__.py", "puzzles.py", "solutions.py", "turns.py"})

    def test_form(self):
        for path, text in sources().items():
            self.assertLessEqual(len(text.splitlines()), 400)
            for line in text.split("\n"):
                self.assertLessEqual(len(line), 120, path)
                self.assertTrue(all(" " <= sign <= "~" for sign in line), line)
            self.assertFalse(set(re.findall(r"\w+", text)) & set(WORDS))

    def test_nodes(self):
        for path, text in sources().items():
            for node in ast.walk(ast.parse(text)):
                self.assertNotIsInstance(node, NODES, path)
                if isinstance(node, ast.FunctionDef):
                    self.assertLessEqual(node.end_lineno - node.lineno + 1, 40, node.name)
                    self.assertFalse(node.decorator_list or node.args.vararg or node.args.kwarg)
                if isinstance(node, ast.Name):
                    self.assertNotIn(node.id, NAMES)
                    self.assertFalse(node.id.startswith("_"))
                if isinstance(node, ast.ImportFrom):
                    self.assertTrue(node.module.startswith("roundtripsdesk."))

    def test_nothing_is_printed(self):
        told = io.StringIO()
        with contextlib.redirect_stdout(told), contextlib.redirect_stderr(told):
            roundtripsdesk.puzzles.right(2, [2, 0, 2, 0, 1], [0, 1])
            roundtripsdesk.puzzles.right(9, [], [])
            roundtripsdesk.puzzles.many(2, [2, 0, 2, 0, 1])
            roundtripsdesk.puzzles.many(9, [])
            roundtripsdesk.puzzles.first(2, [2, 0, 2, 0, 1])
            roundtripsdesk.puzzles.first(9, [])
            roundtripsdesk.puzzles.turn(2, [2, 0, 2, 0, 1])
            roundtripsdesk.puzzles.turn(9, [])
            roundtripsdesk.puzzles.there(2, [2, 0, 2, 0, 1], [0, 1])
            roundtripsdesk.puzzles.there(9, [], [])
            roundtripsdesk.puzzles.home(2, [2, 0, 2, 0, 1], [0, 1])
            roundtripsdesk.puzzles.home(9, [], [])
        self.assertEqual(told.getvalue(), "")


if __name__ == "__main__":
    unittest.main()
