"""What the interface and the written form ask of the package's files."""

import ast
import inspect
import pathlib
import unittest

import bidsets
from bidsets import selling

FOLDER = pathlib.Path(bidsets.__file__).parent

ALLOWED_BUILTINS = {
    "len", "range", "enumerate", "zip", "min", "max", "sum", "abs", "sorted", "reversed", "int", "str", "bool",
    "list", "tuple", "dict", "set", "isinstance", "any", "all", "divmod",
}


def files():
    return sorted(FOLDER.glob("*.py"))


def trees():
    return [(path, ast.parse(path.read_text(encoding="ascii"))) for path in files()]


def names_called(function):
    return {node.func.id for node in ast.walk(function)
            if isinstance(node, ast.Call) and isinstance(node.func, ast.Name)}


class Interface(unittest.TestCase):
    def check(self, function, n, m, v, answer):
        """By place and by name, with the kinds that the interface tells."""
        self.assertEqual(str(inspect.signature(function)), "(n, m, v)")
        for given in (function(n, m, v), function(n=n, m=m, v=v)):
            self.assertEqual(given, answer)
            self.assertIs(type(given), list)
            self.assertEqual({type(number) for number in given}, {int})

    def test_best_takes_n_m_v(self):
        self.check(selling.best, 1, 1, [0, 3], [0, 3])
        self.check(selling.best, 1, 1, [1, 3], [-3])
        self.check(selling.best, 9, 1, [], [-2])

    def test_pay_takes_n_m_v(self):
        self.check(selling.pay, 2, 1, [0, 3, 0, 2], [0, 2])
        self.check(selling.pay, 1, 1, [1, 3], [-3])
        self.check(selling.pay, 1, 7, [], [-2])

    def test_prices_takes_n_m_v(self):
        self.check(selling.prices, 2, 1, [3, 2], [0, 2])
        self.check(selling.prices, 17, 1, [], [-2])

    def test_each_function_has_its_own_sizes(self):
        # 9 bidders are too many for best and pay, not for prices; so are 7 things.
        for n, m in ((9, 1), (1, 7)):
            self.assertEqual(selling.best(n, m, []), [-2])
            self.assertEqual(selling.pay(n, m, []), [-2])
            self.assertEqual(selling.prices(n, m, [0] * (n * m)), [0] + [0] * m)


class Files(unittest.TestCase):
    def test_only_modules_lie_in_the_package(self):
        for path in FOLDER.iterdir():
            if path.name != "__pycache__":
                self.assertRegex(path.name, r"^[a-z_][a-z0-9_]*\.py$")

    def test_nothing_is_imported(self):
        for path, tree in trees():
            for node in ast.walk(tree):
                self.assertNotIsInstance(node, (ast.Import, ast.ImportFrom), path.name)

    def test_calls_are_of_own_functions_or_allowed_builtins(self):
        # So nothing is printed, read or brought in by a call either.
        for path, tree in trees():
            own = {node.name for node in ast.walk(tree) if isinstance(node, ast.FunctionDef)}
            for node in ast.walk(tree):
                if isinstance(node, ast.Call):
                    self.assertIsInstance(node.func, (ast.Name, ast.Attribute), path.name)
                    if isinstance(node.func, ast.Name):
                        self.assertIn(node.func.id, own | ALLOWED_BUILTINS, path.name)

    def test_sizes_and_signs(self):
        for path, tree in trees():
            text = path.read_text(encoding="ascii")
            self.assertTrue(all(sign == "\n" or " " <= sign <= "~" for sign in text), path.name)
            lines = text.split("\n")
            self.assertLessEqual(len(lines), 400, path.name)
            self.assertLessEqual(max(len(line) for line in lines), 120, path.name)
            for node in ast.walk(tree):
                if isinstance(node, ast.FunctionDef):
                    self.assertLessEqual(node.end_lineno - node.lineno + 1, 40, node.name)

    def test_no_function_calls_itself(self):
        # What is as long as its input is gone through by loops. Not through others either.
        for path, tree in trees():
            called = {function.name: names_called(function) for function in ast.walk(tree)
                      if isinstance(function, ast.FunctionDef)}
            for name in called:
                reached, waiting = set(), [name]
                while waiting:
                    for other in called.get(waiting.pop(), set()) - reached:
                        reached.add(other)
                        waiting.append(other)
                self.assertNotIn(name, reached, path.name)

    def test_the_top_of_a_file_keeps_nothing_that_can_change(self):
        for path, tree in trees():
            for node in tree.body:
                if isinstance(node, ast.Assign):
                    self.assertIsInstance(node.value, ast.Constant, path.name)
                elif isinstance(node, ast.Expr):
                    self.assertIs(node, tree.body[0], path.name)
                else:
                    self.assertIsInstance(node, ast.FunctionDef, path.name)
            for node in ast.walk(tree):
                self.assertNotIsInstance(node, (ast.Global, ast.Nonlocal), path.name)
                if isinstance(node, ast.FunctionDef):
                    self.assertEqual(node.args.defaults, [], node.name)


if __name__ == "__main__":
    unittest.main()
