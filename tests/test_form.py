import ast
import contextlib
import inspect
import io
import pathlib
import unittest

from setfamilies import families

PACKAGE = pathlib.Path(families.__file__).parent

# Each call of the interface: its arguments, and a call that is taken and one that is refused.
CALLS = {
    "join": (["n", "x", "y"], (2, [1], [2]), (2, [4], [2])),
    "meet": (["n", "x", "y"], (2, [1], [2]), (2, [4], [2])),
    "less": (["n", "x", "y"], (2, [1], [2]), (2, [4], [2])),
    "below": (["n", "x"], (2, [1]), (2, [4])),
    "above": (["n", "x"], (2, [1]), (2, [4])),
    "kind": (["n", "x"], (2, [1]), (2, [4])),
    "both": (["n", "x", "y"], (2, [1], [1]), (2, [4], [2])),
    "apart": (["n", "x", "y"], (2, [0, 1], [0, 2]), (2, [4], [2])),
    "shown": (["n", "w", "x", "y"], (2, 0, [0, 1], [0, 2]), (2, 0, [4], [2])),
    "pressed": (["n", "x"], (2, [1]), (2, [4])),
    "shattered": (["n", "x"], (2, [1]), (2, [4])),
}


class Interface(unittest.TestCase):
    def test_arguments_as_told(self):
        for name, (arguments, taken, refused) in CALLS.items():
            parameters = inspect.signature(getattr(families, name)).parameters
            self.assertEqual(list(parameters), arguments)
            for parameter in parameters.values():
                self.assertIs(parameter.default, inspect.Parameter.empty)

    def test_only_a_refusal_is_below_0(self):
        for name, (arguments, taken, refused) in CALLS.items():
            self.assertGreaterEqual(min(getattr(families, name)(*taken)), 0)
            self.assertEqual(getattr(families, name)(*refused), [-22])

    def test_nothing_is_printed(self):
        out, errors = io.StringIO(), io.StringIO()
        with contextlib.redirect_stdout(out), contextlib.redirect_stderr(errors):
            for name, (arguments, taken, refused) in CALLS.items():
                getattr(families, name)(*taken)
                getattr(families, name)(*refused)
        self.assertEqual(out.getvalue() + errors.getvalue(), "")

    def test_nothing_is_kept(self):
        def kept():
            return {name: repr(value) for name, value in vars(families).items() if name != "__builtins__"}

        ahead = kept()
        for name, (arguments, taken, refused) in CALLS.items():
            first = getattr(families, name)(*taken)
            getattr(families, name)(*refused)
            getattr(families, name)(5, *[list(range(32)) if isinstance(given, list) else given for given in taken[1:]])
            self.assertEqual(getattr(families, name)(*taken), first)
        self.assertEqual(kept(), ahead)


class Source(unittest.TestCase):
    def files(self):
        return sorted(path for path in PACKAGE.iterdir() if path.name != "__pycache__")

    def test_nothing_else_lies_in_the_package(self):
        self.assertEqual([path.name for path in self.files()], ["__init__.py", "families.py"])

    def test_nothing_is_imported_or_read(self):
        for path in self.files():
            for node in ast.walk(ast.parse(path.read_text("utf-8"))):
                self.assertNotIsInstance(node, (ast.Import, ast.ImportFrom, ast.Global, ast.Nonlocal))
                if isinstance(node, ast.Name):
                    self.assertNotIn(node.id, ("open", "input", "print", "exec", "eval"))
                    self.assertFalse(node.id.startswith("_"))

    def test_signs_and_sizes(self):
        for path in self.files():
            text = path.read_bytes().decode("ascii")
            self.assertTrue(all(sign == "\n" or " " <= sign <= "~" for sign in text))
            rows = text.split("\n")
            self.assertLessEqual(len(rows), 400)
            self.assertLessEqual(max(len(row) for row in rows), 120)
            for node in ast.walk(ast.parse(text)):
                if isinstance(node, ast.FunctionDef):
                    self.assertLessEqual(node.end_lineno - node.lineno + 1, 40)


if __name__ == "__main__":
    unittest.main()
