"""The package's own files against ../shared/LANGUAGE.md, as far as a walk over their parts can tell."""

import ast
import builtins
import pathlib
import re
import unittest

PACKAGE = pathlib.Path(__file__).resolve().parent.parent / "foxyard"

# L8. These reach neither clock, chance, files nor anything else outside.
ALLOWED = set(
    "len range enumerate zip min max sum abs sorted reversed int str bool list tuple dict set frozenset "
    "isinstance ord repr any all divmod Exception ValueError TypeError KeyError IndexError LookupError "
    "ZeroDivisionError ArithmeticError OverflowError RuntimeError NotImplementedError StopIteration".split()
)

# L4 to L7, and narrower: no def within a def, no lambda, no f-string, no try, no keyword, no annotation, no set.
PARTS = (
    ast.Module, ast.ImportFrom, ast.alias, ast.FunctionDef, ast.arguments, ast.arg, ast.ClassDef,
    ast.Assign, ast.If, ast.While, ast.For, ast.Return, ast.Break, ast.Continue, ast.Pass, ast.Raise, ast.Expr,
    ast.Constant, ast.Name, ast.List, ast.Tuple, ast.Dict, ast.Call, ast.Attribute, ast.Subscript, ast.Slice,
    ast.BinOp, ast.UnaryOp, ast.BoolOp, ast.Compare, ast.IfExp, ast.ListComp, ast.comprehension,
    ast.Add, ast.Sub, ast.Mult, ast.FloorDiv, ast.Mod, ast.USub, ast.And, ast.Or, ast.Not, ast.Load, ast.Store,
    ast.Eq, ast.NotEq, ast.Lt, ast.LtE, ast.Gt, ast.GtE, ast.In, ast.NotIn, ast.Is, ast.IsNot,
)

# L25, of which the program has need of these.
METHODS = set("append count get index items join keys values".split())

# L17.
NAMES_OUT = set(
    "register mro elements open input version_info with_traceback add_note attrgetter breakpoint builtins compile "
    "copyright credits delattr dir eval exec exit gc getattr globals hasattr help id importlib license locals "
    "methodcaller os quit setattr super type vars sys format format_map".split()
)
WORDS_OUT = re.compile(
    r"\b(type|typing|typing_extensions|enum|Enum|IntEnum|StrEnum|Flag|IntFlag|Generic|Protocol|ABC|ABCMeta|namedtuple|"
    r"NamedTuple|TypedDict|TYPE_CHECKING|abstractmethod)\b|dataclass|overload|contextmanager"
)


def package_files():
    return sorted(PACKAGE.rglob("*.py"))


def read(path):
    return path.read_text(encoding="utf-8")


def nodes_of(kinds):
    for path in package_files():
        for node in ast.walk(ast.parse(read(path))):
            if isinstance(node, kinds):
                yield f"{path.name}, line {getattr(node, 'lineno', 0)}", node


def defined_in(path):
    body = ast.parse(read(path)).body
    return [node.name for node in body if isinstance(node, (ast.FunctionDef, ast.ClassDef))]


def drawn_from(path):
    return [node for node in ast.parse(read(path)).body if isinstance(node, ast.ImportFrom)]


class TestFiles(unittest.TestCase):
    def test_the_files_are_there_and_nothing_else(self):
        names = sorted(path.name for path in PACKAGE.iterdir() if path.name != "__pycache__")
        asked = ["__init__.py", "board.py", "errors.py", "places.py", "playing.py", "solving.py"]
        self.assertEqual(names, asked)

    def test_signs_and_sizes(self):
        for path in package_files():
            text = read(path)
            self.assertTrue(all(sign == "\n" or " " <= sign <= "~" for sign in text), path.name)
            self.assertLessEqual(len(text.splitlines()), 400, path.name)
            self.assertLessEqual(max(len(line) for line in text.splitlines()), 120, path.name)
            self.assertIsNone(WORDS_OUT.search(text), path.name)
        for place, node in nodes_of(ast.FunctionDef):
            self.assertLessEqual(node.end_lineno - node.lineno + 1, 40, place)

    def test_the_top_of_each_file(self):
        for path in package_files():
            body = ast.parse(read(path)).body
            self.assertIsInstance(body[0], ast.Expr)
            self.assertIsInstance(body[0].value, ast.Constant)
            for node in body[1:]:
                self.assertIsInstance(node, (ast.ImportFrom, ast.FunctionDef, ast.ClassDef), path.name)


class TestImports(unittest.TestCase):
    def test_from_the_file_of_the_package_that_defines_the_name(self):
        for path in package_files():
            for node in drawn_from(path):
                self.assertEqual(node.level, 0)
                self.assertRegex(node.module, r"^foxyard\.[a-z]+$")
                defined = defined_in(PACKAGE / (node.module.split(".")[1] + ".py"))
                for drawn in node.names:
                    self.assertIn(drawn.name, defined, path.name)
                    self.assertIsNone(drawn.asname, path.name)

    def test_at_the_top_alone(self):
        tops = sum(len(drawn_from(path)) for path in package_files())
        self.assertEqual(len(list(nodes_of((ast.Import, ast.ImportFrom)))), tops)

    def test_no_two_files_draw_from_one_another(self):
        left = {path.stem: {node.module.split(".")[1] for node in drawn_from(path)} for path in package_files()}
        while left:
            ready = [name for name in left if not left[name] & set(left)]
            self.assertTrue(ready, left)
            for name in ready:
                del left[name]


class TestNames(unittest.TestCase):
    def test_no_name_of_pythons_own_but_those_allowed(self):
        out = (set(dir(builtins)) - ALLOWED) | NAMES_OUT
        for place, node in nodes_of(ast.Name):
            self.assertNotIn(node.id, out, place)
        for place, node in nodes_of(ast.Attribute):
            self.assertIn(node.attr, METHODS, place)

    def test_what_is_bound(self):
        own = set(dir(builtins)) | NAMES_OUT
        for path in package_files():
            tops = defined_in(path) + [drawn.name for node in drawn_from(path) for drawn in node.names]
            self.assertEqual(len(set(tops)), len(tops), path.name)
            tree = ast.parse(read(path))
            names = [node for node in ast.walk(tree) if isinstance(node, ast.Name)]
            stored = [node.id for node in names if isinstance(node.ctx, ast.Store)]
            stored += [node.arg for node in ast.walk(tree) if isinstance(node, ast.arg)]
            for name in tops + stored:
                self.assertNotIn(name, own, path.name)
                self.assertRegex(name, r"^[A-Za-z][A-Za-z0-9_]*$")
            self.assertFalse(set(stored) & set(tops), path.name)


class TestParts(unittest.TestCase):
    def test_only_these_parts(self):
        for place, node in nodes_of(ast.AST):
            self.assertIsInstance(node, PARTS, place)

    def test_functions(self):
        for place, node in nodes_of(ast.FunctionDef):
            arguments = node.args
            self.assertFalse(node.decorator_list or node.returns, place)
            self.assertFalse(arguments.vararg or arguments.kwarg, place)
            self.assertFalse(arguments.kwonlyargs or arguments.posonlyargs or arguments.defaults, place)
            self.assertFalse([part for part in arguments.args if part.annotation], place)
            inner = [part for part in ast.walk(node) if part is not node and isinstance(part, ast.FunctionDef)]
            self.assertFalse(inner, place)

    def test_classes(self):
        for place, node in nodes_of(ast.ClassDef):
            self.assertEqual(len(node.bases), 1, place)
            self.assertFalse(node.decorator_list or node.keywords, place)
            self.assertTrue(all(isinstance(part, ast.Pass) for part in node.body), place)

    def test_statements(self):
        for place, node in nodes_of((ast.For, ast.While)):
            self.assertFalse(node.orelse, place)
        for place, node in nodes_of(ast.Assign):
            self.assertEqual(len(node.targets), 1, place)
            self.assertIsInstance(node.targets[0], (ast.Name, ast.Subscript), place)
        for place, node in nodes_of(ast.Raise):
            self.assertIsInstance(node.exc, ast.Call, place)

    def test_expressions(self):
        for place, node in nodes_of(ast.Constant):
            self.assertIn(type(node.value), (int, str, bool, type(None)), place)
            self.assertNotIn("%", str(node.value), place)
        for place, node in nodes_of(ast.ListComp):
            self.assertEqual(len(node.generators), 1, place)
            self.assertLessEqual(len(node.generators[0].ifs), 1, place)
        for place, node in nodes_of(ast.Call):
            self.assertFalse(node.keywords, place)
        for place, node in nodes_of(ast.Compare):
            if isinstance(node.ops[0], (ast.Is, ast.IsNot)):
                self.assertIsInstance(node.comparators[0], ast.Constant, place)
                self.assertIsNone(node.comparators[0].value, place)

    def test_a_set_stands_within_len_alone(self):
        within = [node.args[0] for place, node in nodes_of(ast.Call) if self.calls(node, "len")]
        sets = [node for node in within if self.calls(node, "set")]
        self.assertEqual(len([node for place, node in nodes_of(ast.Name) if node.id == "set"]), len(sets))

    def calls(self, node, name):
        return isinstance(node, ast.Call) and isinstance(node.func, ast.Name) and node.func.id == name


if __name__ == "__main__":
    unittest.main()
