import ast
import contextlib
import inspect
import io
import unittest
from pathlib import Path

import risingrules
from risingrules import flags

FOLDER = Path(risingrules.__file__).parent
SOURCES = {path.name: path.read_text(encoding="utf-8") for path in sorted(FOLDER.glob("*.py"))}
TAKES_STATES = {"rises": False, "least": False, "greatest": False, "join": True, "meet": True, "seeds": False}


def named(takes_states, n, t):
    """The arguments by name, in the order in which they are told."""
    if takes_states:
        return {"n": n, "x": 0, "y": 3, "t": t}
    return {"n": n, "t": t}


class Interface(unittest.TestCase):
    def test_names_and_arguments(self):
        for name, takes_states in TAKES_STATES.items():
            call = getattr(flags, name)
            arguments = named(takes_states, 2, [12, 10])
            self.assertEqual(list(inspect.signature(call).parameters), list(arguments))
            self.assertEqual(call(**arguments), call(*arguments.values()))

    def test_nothing_is_printed(self):
        printed = io.StringIO()
        with contextlib.redirect_stdout(printed), contextlib.redirect_stderr(printed):
            for name, takes_states in TAKES_STATES.items():
                for n, t in [(2, [12, 10]), (2, [7, 7]), (2, [0, 0]), (0, [])]:
                    getattr(flags, name)(**named(takes_states, n, t))
        self.assertEqual(printed.getvalue(), "")


class Form(unittest.TestCase):
    def test_the_files(self):
        kept = sorted(path.name for path in FOLDER.iterdir() if path.name != "__pycache__")
        self.assertEqual(kept, ["__init__.py", "flags.py"])

    def test_nothing_is_imported_or_read(self):
        for name, source in SOURCES.items():
            for node in ast.walk(ast.parse(source)):
                self.assertNotIsInstance(node, (ast.Import, ast.ImportFrom), name)
                if isinstance(node, ast.Name):
                    self.assertNotIn(node.id, ("print", "open", "input"), name)

    def test_nothing_that_could_be_kept_stands_at_the_top(self):
        for name, source in SOURCES.items():
            for node in ast.parse(source).body:
                if isinstance(node, ast.Assign):
                    self.assertIs(type(ast.literal_eval(node.value)), int, name)
                elif isinstance(node, ast.Expr):
                    self.assertIs(type(ast.literal_eval(node.value)), str, name)
                else:
                    self.assertIsInstance(node, ast.FunctionDef, name)
            for node in ast.walk(ast.parse(source)):
                self.assertNotIsInstance(node, (ast.Global, ast.Nonlocal), name)

    def test_sizes_and_signs(self):
        for name, source in SOURCES.items():
            lines = source.split("\n")
            self.assertLessEqual(len(lines), 400, name)
            self.assertLessEqual(max(len(line) for line in lines), 120, name)
            self.assertTrue(all(" " <= sign <= "~" or sign == "\n" for sign in source), name)
            for node in ast.walk(ast.parse(source)):
                if isinstance(node, ast.FunctionDef):
                    self.assertLessEqual(node.end_lineno - node.lineno + 1, 40, node.name)


if __name__ == "__main__":
    unittest.main()
