"""What the interface and the written form ask of the package's files."""

import ast
import inspect
import pathlib
import unittest

import bidsets
from bidsets import selling

FOLDER = pathlib.Path(bidsets.__file__).parent

ALLOWED_BUILTINS = {
    "len", "range", "enumerate", "zip", "min", "max", "sum", "abs", "sorted", "reversed", "int", "str", "bool",
    "list", "tuple", "dict", "set", "isinstance", "any", "all", "divmod",
}


def files():
    return sorted(FOLDER.glob("*.py"))


def trees():
    return [(path, ast.parse(path.read_text(encoding="ascii"))) for path in files()]


class Interface(unittest.TestCase):
    def test_best_takes_n_m_v(self):
        self.assertEqual(list(inspect.signature(selling.best).parameters), ["n", "m", "v"])
        self.assertEqual(selling.best(n=1, m=1, v=[0, 3]), [0, 3])

    def test_pay_takes_n_m_v(self):
        self.assertEqual(list(inspect.signature(selling.pay).parameters), ["n", "m", "v"])
        self.assertEqual(selling.pay(n=2, m=1, v=[0, 3, 0, 2]), [0, 2])


class Files(unittest.TestCase):
    def test_only_modules_lie_in_the_package(self):
        for path in FOLDER.iterdir():
            if path.name != "__pycache__":
                self.assertRegex(path.name, r"^[a-z_][a-z0-9_]*\.py$")

    def test_nothing_is_imported(self):
        for path, tree in trees():
            for node in ast.walk(tree):
                self.assertNotIsInstance(node, (ast.Import, ast.ImportFrom), path.name)

    def test_calls_are_of_own_functions_or_allowed_builtins(self):
        # So nothing is printed, read or brought in by a call either.
        for path, tree in trees():
            own = {node.name for node in ast.walk(tree) if isinstance(node, ast.FunctionDef)}
            for node in ast.walk(tree):
                if isinstance(node, ast.Call):
                    self.assertIsInstance(node.func, (ast.Name, ast.Attribute), path.name)
                    if isinstance(node.func, ast.Name):
                        self.assertIn(node.func.id, own | ALLOWED_BUILTINS, path.name)

    def test_sizes_and_signs(self):
        for path, tree in trees():
            text = path.read_text(encoding="ascii")
            self.assertTrue(all(sign == "\n" or " " <= sign <= "~" for sign in text), path.name)
            lines = text.split("\n")
            self.assertLessEqual(len(lines), 400, path.name)
            self.assertLessEqual(max(len(line) for line in lines), 120, path.name)
            for node in ast.walk(tree):
                if isinstance(node, ast.FunctionDef):
                    self.assertLessEqual(node.end_lineno - node.lineno + 1, 40, node.name)

    def test_no_function_calls_itself(self):
        # What is as long as its input is gone through by loops.
        for path, tree in trees():
            for function in ast.walk(tree):
                if isinstance(function, ast.FunctionDef):
                    called = [node.func.id for node in ast.walk(function)
                              if isinstance(node, ast.Call) and isinstance(node.func, ast.Name)]
                    self.assertNotIn(function.name, called, path.name)


if __name__ == "__main__":
    unittest.main()
