import ast
import builtins
import pathlib
import unittest

PACKAGE = pathlib.Path(__file__).resolve().parent.parent / "foxyard"

# Of Python's own names, those that reach neither clock, chance, files nor anything else outside.
ALLOWED = set(
    "len range enumerate zip min max sum abs sorted reversed int str bool list tuple dict set frozenset "
    "isinstance ord repr any all divmod Exception ValueError TypeError KeyError IndexError LookupError "
    "ZeroDivisionError ArithmeticError OverflowError RuntimeError NotImplementedError StopIteration".split()
)


def package_files():
    return sorted(PACKAGE.rglob("*.py"))


class TestPackage(unittest.TestCase):
    def test_the_files_are_there(self):
        names = [path.name for path in package_files()]
        for name in ("__init__.py", "errors.py", "board.py"):
            self.assertIn(name, names)

    def test_only_the_packages_own_modules_are_drawn_from(self):
        for path in package_files():
            for node in ast.walk(ast.parse(path.read_text(encoding="utf-8"))):
                with self.subTest(path=path.name):
                    self.assertNotIsInstance(node, ast.Import)
                    if isinstance(node, ast.ImportFrom):
                        self.assertEqual(node.level, 0)
                        self.assertTrue(node.module.startswith("foxyard."), node.module)

    def test_no_name_of_pythons_own_that_reaches_outside(self):
        own = set(dir(builtins)) - ALLOWED
        for path in package_files():
            for node in ast.walk(ast.parse(path.read_text(encoding="utf-8"))):
                if isinstance(node, ast.Name):
                    self.assertNotIn(node.id, own, f"{path.name}, line {node.lineno}")

    def test_signs_and_sizes(self):
        for path in package_files():
            text = path.read_text(encoding="utf-8")
            self.assertTrue(all(sign == "\n" or " " <= sign <= "~" for sign in text), path.name)
            self.assertLessEqual(len(text.splitlines()), 400, path.name)
            self.assertLessEqual(max(len(line) for line in text.splitlines()), 120, path.name)
            for node in ast.walk(ast.parse(text)):
                if isinstance(node, ast.FunctionDef):
                    self.assertLessEqual(node.end_lineno - node.lineno + 1, 40, f"{path.name}, {node.name}")


if __name__ == "__main__":
    unittest.main()
