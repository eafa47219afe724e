"""The form of the package's files: the rules of the language that can be read off them file by file."""

import ast
import builtins
import pathlib
import re
import unittest

PACKAGE = pathlib.Path(__file__).resolve().parent.parent / "glide"

NODES = set("""
    Module Expr ImportFrom alias FunctionDef arguments arg ClassDef Lambda
    Assign AugAssign If While For Return Break Continue Pass Raise Try ExceptHandler
    Name Load Store Constant List Tuple Dict Set Attribute Subscript Slice Call keyword
    BinOp Add Sub Mult FloorDiv Mod Pow BitAnd BitOr BitXor LShift RShift Invert
    UnaryOp USub UAdd Not BoolOp And Or Compare Eq NotEq Lt LtE Gt GtE Is IsNot In NotIn
    IfExp ListComp comprehension JoinedStr FormattedValue
""".split())

OWN_NAMES = set("""
    len range enumerate zip min max sum abs sorted reversed int str bool list tuple dict set frozenset
    isinstance ord repr any all divmod Exception ValueError TypeError KeyError IndexError LookupError
    ZeroDivisionError ArithmeticError OverflowError RuntimeError NotImplementedError StopIteration
""".split())

METHODS = set("__init__ __eq__ __repr__ __str__ __len__".split())

WORDS = re.compile(
    r"\b(type|typing|typing_extensions|enum|Enum|IntEnum|StrEnum|Flag|IntFlag|Generic|Protocol|ABC|ABCMeta"
    r"|namedtuple|NamedTuple|TypedDict|TYPE_CHECKING|abstractmethod)\b|dataclass|overload|contextmanager"
)


def files():
    return sorted(PACKAGE.glob("*.py"))


def trees():
    return [(path, ast.parse(path.read_text(encoding="utf-8"), path.name)) for path in files()]


def defined_in(module):
    path = PACKAGE.joinpath(*module.split(".")[1:]).with_suffix(".py")
    tree = ast.parse(path.read_text(encoding="utf-8"))
    return [node.name for node in tree.body if isinstance(node, (ast.FunctionDef, ast.ClassDef))] + [
        node.targets[0].id for node in tree.body if isinstance(node, ast.Assign)
    ]


class FormTest(unittest.TestCase):
    def test_files(self):
        for path in PACKAGE.iterdir():
            if path.name != "__pycache__":
                self.assertRegex(path.name, r"\A([a-z][a-z0-9_]*|__init__)\.py\Z")
        self.assertTrue((PACKAGE / "__init__.py").is_file())

    def test_signs_words_and_sizes(self):
        for path in files():
            text = path.read_text(encoding="utf-8")
            with self.subTest(file=path.name):
                self.assertEqual([sign for sign in text if sign != "\n" and not " " <= sign <= "~"], [])
                self.assertIsNone(WORDS.search(text))
                self.assertLessEqual(len(text.splitlines()), 400)
                self.assertLessEqual(max(len(row) for row in text.splitlines()), 120)

    def test_statements_and_expressions(self):
        for path, tree in trees():
            for node in ast.walk(tree):
                self.assertIn(type(node).__name__, NODES, (path.name, getattr(node, "lineno", 0)))
                if isinstance(node, ast.Assign):
                    self.assertEqual(len(node.targets), 1, (path.name, node.lineno))
                if isinstance(node, (ast.While, ast.For)):
                    self.assertEqual(node.orelse, [], (path.name, node.lineno))
                if isinstance(node, ast.Constant):
                    self.assertNotIsInstance(node.value, (float, complex, bytes), (path.name, node.lineno))

    def test_functions(self):
        for path, tree in trees():
            for node in ast.walk(tree):
                if isinstance(node, ast.FunctionDef):
                    self.assertLessEqual(node.end_lineno - node.lineno + 1, 40, (path.name, node.name))
                    self.assertEqual(node.decorator_list, [], (path.name, node.name))
                    self.assertIsNone(node.args.vararg or node.args.kwarg, (path.name, node.name))
                    self.assertEqual(node.args.kwonlyargs + node.args.posonlyargs, [], (path.name, node.name))

    def test_names(self):
        own = set(dir(builtins))
        for path, tree in trees():
            for node in ast.walk(tree):
                name = getattr(node, "id", None) or getattr(node, "attr", None) or getattr(node, "arg", None)
                name = name or getattr(node, "name", None)
                if not isinstance(name, str) or name in METHODS:
                    continue
                self.assertRegex(name, r"\A[A-Za-z][A-Za-z0-9_]*\Z")
                if isinstance(node, ast.Name) and name in own:
                    self.assertIn(name, OWN_NAMES, (path.name, node.lineno))
                    self.assertIsInstance(node.ctx, ast.Load, (path.name, node.lineno))
                if isinstance(node, ast.arg):
                    self.assertNotIn(name, own, (path.name, node.lineno))

    def test_imports(self):
        drawn = {}
        for path, tree in trees():
            rows = [node for node in ast.walk(tree) if isinstance(node, ast.ImportFrom)]
            drawn[f"glide.{path.stem}"] = [node.module for node in rows]
            for node in rows:
                self.assertEqual(node.level, 0, (path.name, node.lineno))
                self.assertTrue(node.module.startswith("glide."), (path.name, node.lineno))
                self.assertIn(node, tree.body)
                for alias in node.names:
                    self.assertIn(alias.name, defined_in(node.module), (path.name, node.lineno))
        self.no_ring(drawn)

    def no_ring(self, drawn):
        left = dict(drawn)
        while left:
            free = [name for name in left if not any(other in left for other in left[name])]
            self.assertNotEqual(free, [], f"these draw from one another: {sorted(left)}")
            for name in free:
                del left[name]


if __name__ == "__main__":
    unittest.main()
