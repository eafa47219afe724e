"""The form of the package's files: the rules of the language that can be read off them file by file."""

import ast
import builtins
import pathlib
import re
import unittest

PACKAGE = pathlib.Path(__file__).resolve().parent.parent / "glide"

NODES = set("""
    Module Expr ImportFrom alias FunctionDef arguments arg ClassDef Lambda
    Assign AugAssign If While For Return Break Continue Pass Raise Try ExceptHandler
    Name Load Store Constant List Tuple Dict Set Attribute Subscript Slice Call keyword
    BinOp Add Sub Mult FloorDiv Mod Pow BitAnd BitOr BitXor LShift RShift Invert
    UnaryOp USub UAdd Not BoolOp And Or Compare Eq NotEq Lt LtE Gt GtE Is IsNot In NotIn
    IfExp ListComp comprehension JoinedStr FormattedValue
""".split())

OWN_NAMES = set("""
    len range enumerate zip min max sum abs sorted reversed int str bool list tuple dict set frozenset
    isinstance ord repr any all divmod Exception ValueError TypeError KeyError IndexError LookupError
    ZeroDivisionError ArithmeticError OverflowError RuntimeError NotImplementedError StopIteration
""".split())

METHODS = set("__init__ __eq__ __repr__ __str__ __len__".split())

WORDS = re.compile(
    r"\b(type|typing|typing_extensions|enum|Enum|IntEnum|StrEnum|Flag|IntFlag|Generic|Protocol|ABC|ABCMeta"
    r"|namedtuple|NamedTuple|TypedDict|TYPE_CHECKING|abstractmethod)\b|dataclass|overload|contextmanager"
)


NOT_NAMES = set("""
    attrgetter breakpoint builtins compile copyright credits delattr dir eval exec exit gc getattr globals hasattr
    help id importlib license locals methodcaller os quit setattr super type vars sys chr
""".split())

NOWHERE = set("register mro elements open input version_info with_traceback add_note format format_map".split())

PLAIN_METHODS = set("""
    append clear copy count endswith extend find get index insert isalnum isalpha isdigit islower isspace isupper
    items join keys ljust lower lstrip partition pop remove replace reverse rfind rjust rpartition rsplit rstrip
    setdefault split splitlines startswith strip update upper values zfill bit_length
""".split())

WALKED = set("zip enumerate reversed range".split())
WALKERS = set("list tuple dict sorted sum any all enumerate zip min max".split())


def files():
    return sorted(PACKAGE.glob("*.py"))


def trees():
    return [(path, ast.parse(path.read_text(encoding="utf-8"), path.name)) for path in files()]


def nodes(*kinds):
    """Each node of these kinds in the package, with the place where it stands."""
    for path, tree in trees():
        for node in ast.walk(tree):
            if isinstance(node, kinds):
                yield node, (path.name, node.lineno)


def called(node):
    """The plain name that a call calls."""
    return node.func.id if isinstance(node, ast.Call) and isinstance(node.func, ast.Name) else None


def classes():
    return [node for node, at in nodes(ast.ClassDef)]


def methods_of(node):
    return [part.name for part in node.body if isinstance(part, ast.FunctionDef)]


def bound_in(function):
    """The names of a function's parameters and locals."""
    for node in ast.walk(function):
        if isinstance(node, ast.arg):
            yield node.arg
        if isinstance(node, ast.Name) and isinstance(node.ctx, ast.Store):
            yield node.id
        if isinstance(node, ast.ExceptHandler) and node.name:
            yield node.name


def defined_in(module):
    path = PACKAGE.joinpath(*module.split(".")[1:]).with_suffix(".py")
    tree = ast.parse(path.read_text(encoding="utf-8"))
    return [node.name for node in tree.body if isinstance(node, (ast.FunctionDef, ast.ClassDef))] + [
        node.targets[0].id for node in tree.body if isinstance(node, ast.Assign)
    ]


class FormTest(unittest.TestCase):
    def test_files(self):
        for path in PACKAGE.iterdir():
            if path.name != "__pycache__":
                self.assertRegex(path.name, r"\A([a-z][a-z0-9_]*|__init__)\.py\Z")
        self.assertTrue((PACKAGE / "__init__.py").is_file())

    def test_signs_words_and_sizes(self):
        for path in files():
            text = path.read_text(encoding="utf-8")
            with self.subTest(file=path.name):
                self.assertEqual([sign for sign in text if sign != "\n" and not " " <= sign <= "~"], [])
                self.assertIsNone(WORDS.search(text))
                self.assertLessEqual(len(text.splitlines()), 400)
                self.assertLessEqual(max(len(row) for row in text.splitlines()), 120)

    def test_statements_and_expressions(self):
        for path, tree in trees():
            for node in ast.walk(tree):
                self.assertIn(type(node).__name__, NODES, (path.name, getattr(node, "lineno", 0)))
                if isinstance(node, ast.Assign):
                    self.assertEqual(len(node.targets), 1, (path.name, node.lineno))
                if isinstance(node, (ast.While, ast.For)):
                    self.assertEqual(node.orelse, [], (path.name, node.lineno))
                if isinstance(node, ast.Constant):
                    self.assertNotIsInstance(node.value, (float, complex, bytes), (path.name, node.lineno))

    def test_functions(self):
        for path, tree in trees():
            for node in ast.walk(tree):
                if isinstance(node, ast.FunctionDef):
                    self.assertLessEqual(node.end_lineno - node.lineno + 1, 40, (path.name, node.name))
                    self.assertEqual(node.decorator_list, [], (path.name, node.name))
                    self.assertIsNone(node.args.vararg or node.args.kwarg, (path.name, node.name))
                    self.assertEqual(node.args.kwonlyargs + node.args.posonlyargs, [], (path.name, node.name))

    def test_names(self):
        own = set(dir(builtins))
        for path, tree in trees():
            for node in ast.walk(tree):
                name = getattr(node, "id", None) or getattr(node, "attr", None) or getattr(node, "arg", None)
                name = name or getattr(node, "name", None)
                if not isinstance(name, str) or name in METHODS:
                    continue
                self.assertRegex(name, r"\A[A-Za-z][A-Za-z0-9_]*\Z")
                if isinstance(node, ast.Name) and name in own:
                    self.assertIn(name, OWN_NAMES, (path.name, node.lineno))
                    self.assertIsInstance(node.ctx, ast.Load, (path.name, node.lineno))
                if isinstance(node, ast.arg):
                    self.assertNotIn(name, own, (path.name, node.lineno))

    def test_imports(self):
        drawn = {}
        for path, tree in trees():
            rows = [node for node in ast.walk(tree) if isinstance(node, ast.ImportFrom)]
            drawn[f"glide.{path.stem}"] = [node.module for node in rows]
            for node in rows:
                self.assertEqual(node.level, 0, (path.name, node.lineno))
                self.assertTrue(node.module.startswith("glide."), (path.name, node.lineno))
                self.assertIn(node, tree.body)
                for alias in node.names:
                    self.assertIn(alias.name, defined_in(node.module), (path.name, node.lineno))
        self.no_ring(drawn)

    def test_top_of_a_file(self):
        for path, tree in trees():
            self.assertIsNotNone(ast.get_docstring(tree), path.name)
            bound = []
            for node in tree.body[1:]:
                self.assertIsInstance(node, (ast.ImportFrom, ast.FunctionDef, ast.ClassDef, ast.Assign), path.name)
                if isinstance(node, ast.ImportFrom):
                    bound += [alias.asname or alias.name for alias in node.names]
                elif isinstance(node, ast.Assign):
                    bound.append(node.targets[0].id)
                else:
                    bound.append(node.name)
            self.assertEqual(len(bound), len(set(bound)), path.name)

    def test_locals_are_called_like_nothing_else(self):
        own = set(dir(builtins))
        for path, tree in trees():
            taken = {alias.asname or alias.name for node in tree.body if isinstance(node, ast.ImportFrom)
                     for alias in node.names}
            taken |= {node.name for node in tree.body if isinstance(node, (ast.ClassDef, ast.FunctionDef))}
            for node in ast.walk(tree):
                if isinstance(node, ast.FunctionDef):
                    self.assertEqual((taken | own) & set(bound_in(node)), set(), (path.name, node.name))

    def test_classes(self):
        for node, at in nodes(ast.ClassDef):
            self.assertLessEqual(len(node.bases), 1, at)
            self.assertEqual(node.keywords + node.decorator_list, [], at)
            for part in node.body:
                self.assertIsInstance(part, (ast.FunctionDef, ast.Pass, ast.Expr), at)
            names = methods_of(node)
            self.assertEqual(len(names), len(set(names)), at)
            for name in names:
                self.assertTrue(name in METHODS or not name.startswith("_"), at)

    def test_no_name_is_a_method_and_a_value(self):
        methods = {name for node in classes() for name in methods_of(node)}
        for node, at in nodes(ast.Attribute):
            if isinstance(node.ctx, ast.Store):
                self.assertNotIn(node.attr, methods, at)
                self.assertNotIn(node.attr, PLAIN_METHODS, at)

    def test_methods_that_are_called(self):
        methods = {name for node in classes() for name in methods_of(node)}
        for node, at in nodes(ast.Call):
            if isinstance(node.func, ast.Attribute):
                self.assertIn(node.func.attr, methods | PLAIN_METHODS, at)
            for keyword in node.keywords:
                self.assertIn(called(node), ("sorted", "min", "max", "sum", "enumerate", "zip"), at)

    def test_names_that_are_not_used(self):
        for node, at in nodes(ast.Name):
            self.assertNotIn(node.id, NOT_NAMES | NOWHERE, at)
        for node, at in nodes(ast.Attribute):
            self.assertNotIn(node.attr, NOWHERE, at)
        for node, at in nodes(ast.FunctionDef, ast.ClassDef):
            self.assertNotIn(node.name, NOT_NAMES | NOWHERE, at)

    def test_is_stands_beside_none_and_truths_alone(self):
        for node, at in nodes(ast.Compare):
            for operator, right in zip(node.ops, node.comparators):
                if isinstance(operator, (ast.Is, ast.IsNot)):
                    self.assertIsInstance(right, ast.Constant, at)
                    self.assertIn(right.value, (None, True, False), at)

    def test_no_annotations(self):
        for node, at in nodes(ast.FunctionDef):
            self.assertIsNone(node.returns, at)
        for node, at in nodes(ast.arg):
            self.assertIsNone(node.annotation, at)

    def test_comprehensions_and_texts(self):
        for node, at in nodes(ast.ListComp):
            self.assertEqual(len(node.generators), 1, at)
            self.assertLessEqual(len(node.generators[0].ifs), 1, at)
        for node, at in nodes(ast.FormattedValue):
            self.assertIsInstance(node.value, ast.Name, at)
            self.assertIsNone(node.format_spec, at)
        for node, at in nodes(ast.Constant):
            if isinstance(node.value, str):
                self.assertNotIn("%", node.value, at)

    def test_statements_by_themselves_are_calls_or_docstrings(self):
        for node, at in nodes(ast.Expr):
            self.assertIsInstance(node.value, (ast.Call, ast.Constant), at)

    def test_tries(self):
        for node, at in nodes(ast.Try):
            self.assertEqual(node.finalbody, [], at)
        for node, at in nodes(ast.ExceptHandler):
            self.assertIsInstance(node.type, ast.Name, at)
            self.assertNotIn(node.type.id, ("Exception", "TypeError"), at)

    def test_walked_at_once(self):
        for path, tree in trees():
            held = set()
            for node in ast.walk(tree):
                if isinstance(node, (ast.For, ast.comprehension)):
                    held.add(node.iter)
                if called(node) in WALKERS:
                    held.update(node.args[:1] if called(node) != "zip" else node.args)
            for node in ast.walk(tree):
                kept = called(node) in WALKED
                if isinstance(node, ast.Call) and isinstance(node.func, ast.Attribute):
                    kept = node.func.attr in ("items", "keys", "values")
                if kept:
                    self.assertIn(node, held, (path.name, node.lineno))

    def test_sets_are_not_kept(self):
        for path, tree in trees():
            held = set()
            for node in ast.walk(tree):
                if called(node) in ("sorted", "len") and not node.keywords:
                    held.update(node.args)
            for node in ast.walk(tree):
                if called(node) in ("set", "frozenset"):
                    self.assertIn(node, held, (path.name, node.lineno))

    def no_ring(self, drawn):
        left = dict(drawn)
        while left:
            free = [name for name in left if not any(other in left for other in left[name])]
            self.assertNotEqual(free, [], f"these draw from one another: {sorted(left)}")
            for name in free:
                del left[name]


if __name__ == "__main__":
    unittest.main()
