"""What can be seen at a glance of the rules that the package's own files keep to."""

import ast
import builtins
import pathlib
import re
import unittest

PACKAGE = pathlib.Path(__file__).resolve().parent.parent / "tasklocks"

BUILT_IN = set(
    "len range enumerate zip min max sum abs sorted reversed int str bool list tuple dict set frozenset isinstance ord "
    "repr any all divmod Exception ValueError TypeError KeyError IndexError LookupError ZeroDivisionError "
    "ArithmeticError OverflowError RuntimeError NotImplementedError AttributeError StopIteration".split()
)
NO_WORDS = (
    r"\b(type|typing|typing_extensions|enum|Enum|IntEnum|StrEnum|Flag|IntFlag|Generic|Protocol|ABC|ABCMeta|namedtuple|"
    r"NamedTuple|TypedDict|TYPE_CHECKING|abstractmethod)\b|dataclass|overload|contextmanager"
)
NO_NODES = (
    ast.With, ast.Match, ast.Delete, ast.Global, ast.Nonlocal, ast.Assert, ast.Yield, ast.YieldFrom, ast.Await,
    ast.AsyncFunctionDef, ast.AsyncFor, ast.AsyncWith, ast.SetComp, ast.DictComp, ast.GeneratorExp, ast.NamedExpr,
    ast.Starred, ast.Div, ast.Import, ast.AnnAssign, ast.TryStar,
)
TOP_NODES = (ast.ImportFrom, ast.FunctionDef, ast.ClassDef, ast.Assign, ast.Expr)
METHODS_WITH_UNDERSCORES = ("__init__",)


def sources():
    return sorted(path for path in PACKAGE.rglob("*") if path.is_file() and "__pycache__" not in path.parts)


def is_plain(value):
    if isinstance(value, (ast.List, ast.Tuple)):
        return all(is_plain(part) for part in value.elts)
    return isinstance(value, ast.Constant) and isinstance(value.value, (int, str, type(None)))


class Language(unittest.TestCase):
    def trees(self):
        for path in sources():
            yield path.name, ast.parse(path.read_text(encoding="ascii"))

    def test_files(self):
        self.assertIn(PACKAGE / "__init__.py", sources())
        for path in sources():
            self.assertRegex(path.name, r"^([a-z][a-z0-9_]*|__init__)\.py$")

    def test_signs_words_and_sizes(self):
        for path in sources():
            text = path.read_text(encoding="ascii")
            self.assertRegex(text, r"^[ -~\n]*$", path.name)
            self.assertIsNone(re.search(NO_WORDS, text), path.name)
            self.assertLessEqual(text.count("\n"), 400, path.name)
            self.assertLessEqual(max(map(len, text.split("\n"))), 120, path.name)

    def test_nodes(self):
        for name, tree in self.trees():
            for node in ast.walk(tree):
                where = f"{name}:{getattr(node, 'lineno', 0)}"
                self.assertNotIsInstance(node, NO_NODES, where)
                if isinstance(node, (ast.For, ast.While)):
                    self.assertEqual(node.orelse, [], where)
                if isinstance(node, ast.Assign):
                    self.assertEqual(len(node.targets), 1, where)
                    self.assertNotIsInstance(node.targets[0], ast.Tuple, where)
                if isinstance(node, ast.Constant):
                    self.assertNotIsInstance(node.value, (float, bytes), where)

    def test_tops(self):
        for name, tree in self.trees():
            for node in tree.body:
                self.assertIsInstance(node, TOP_NODES, name)
                if isinstance(node, ast.Assign):
                    self.assertTrue(is_plain(node.value), f"{name}:{node.lineno}")
                if isinstance(node, ast.ImportFrom):
                    self.assertRegex(node.module, r"^tasklocks\.[a-z]+$")

    def test_functions(self):
        for name, tree in self.trees():
            for node in ast.walk(tree):
                if isinstance(node, ast.FunctionDef):
                    where = f"{name}:{node.lineno}"
                    self.assertLessEqual(node.end_lineno - node.lineno + 1, 40, where)
                    self.assertEqual(node.decorator_list, [], where)
                    self.assertIsNone(node.args.vararg or node.args.kwarg, where)
                    self.assertTrue(node.name in METHODS_WITH_UNDERSCORES or not node.name.startswith("_"), where)

    def test_names(self):
        for name, tree in self.trees():
            for node in ast.walk(tree):
                if isinstance(node, ast.Name):
                    where = f"{name}:{node.lineno}: {node.id}"
                    self.assertFalse(node.id.startswith("_"), where)
                    self.assertTrue(node.id in BUILT_IN or not hasattr(builtins, node.id), where)

    def test_no_name_is_a_method_and_a_value(self):
        methods = set()
        values = set()
        for _, tree in self.trees():
            for node in ast.walk(tree):
                if isinstance(node, ast.ClassDef):
                    methods |= {part.name for part in node.body if isinstance(part, ast.FunctionDef)}
                if isinstance(node, ast.Attribute) and isinstance(node.ctx, ast.Store):
                    values.add(node.attr)
        self.assertEqual(methods & values, set())


if __name__ == "__main__":
    unittest.main()
