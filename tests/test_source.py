"""What no call can show: that the package draws on no clock, chance or files, and has whole numbers alone."""

import ast
import builtins
import pathlib
import unittest

PACKAGE = pathlib.Path(__file__).resolve().parent.parent / "seatdeal"
BUILT_IN = dir(builtins)
ALLOWED = (
    "len range enumerate zip min max sum abs sorted reversed int str bool list tuple dict set frozenset isinstance"
    " ord repr any all divmod Exception ValueError TypeError KeyError IndexError LookupError ZeroDivisionError"
    " ArithmeticError OverflowError RuntimeError NotImplementedError StopIteration"
).split()


def sources():
    return sorted(PACKAGE.rglob("*.py"))


def walk_all():
    for path in sources():
        for node in ast.walk(ast.parse(path.read_text(encoding="ascii"))):
            yield path.name, node


class Source(unittest.TestCase):
    def test_package_is_there(self):
        names = [path.name for path in sources()]
        for name in ("__init__.py", "divisors.py", "errors.py", "lots.py", "remainders.py"):
            self.assertIn(name, names)

    def test_only_own_modules_are_imported(self):
        for name, node in walk_all():
            self.assertNotIsInstance(node, ast.Import, name)
            if isinstance(node, ast.ImportFrom):
                self.assertEqual(node.level, 0, name)
                self.assertTrue(node.module.startswith("seatdeal."), (name, node.module))

    def test_only_harmless_names_of_python_are_used(self):
        for name, node in walk_all():
            if isinstance(node, ast.Name) and node.id in BUILT_IN:
                self.assertIn(node.id, ALLOWED, name)

    def test_numbers_are_whole(self):
        for name, node in walk_all():
            self.assertNotIsInstance(node, ast.Div, name)
            if isinstance(node, ast.Constant):
                self.assertNotIsInstance(node.value, (float, complex, bytes), name)

    def test_sizes(self):
        for path in sources():
            rows = path.read_text(encoding="ascii").split("\n")
            self.assertLessEqual(len(rows), 400, path.name)
            self.assertLessEqual(max(len(row) for row in rows), 120, path.name)
        for name, node in walk_all():
            if isinstance(node, ast.FunctionDef):
                self.assertLessEqual(node.end_lineno - node.lineno + 1, 40, (name, node.name))


if __name__ == "__main__":
    unittest.main()
