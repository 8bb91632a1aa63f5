"""The package's own files keep to the part of Python that LANGUAGE.md allows, as far as a look at them shows."""

import ast
import builtins
import pathlib
import re
import unittest

PACKAGE = pathlib.Path(__file__).resolve().parent.parent / "sumworkers"

NODES = set("""
    Module Import ImportFrom alias FunctionDef arguments arg ClassDef Lambda
    Assign AugAssign If While For Return Break Continue Pass Raise Try ExceptHandler Expr
    Constant List Tuple Dict Set Name Attribute Subscript Slice Call keyword Load Store
    BinOp Add Sub Mult FloorDiv Mod Pow LShift RShift BitOr BitXor BitAnd UnaryOp USub UAdd Invert Not
    BoolOp And Or Compare Eq NotEq Lt LtE Gt GtE Is IsNot In NotIn IfExp ListComp comprehension
    JoinedStr FormattedValue
""".split())

OWN_NAMES = set("""
    len range enumerate zip min max sum abs sorted reversed int str bool list tuple dict set frozenset isinstance
    ord repr any all divmod Exception ValueError TypeError KeyError IndexError LookupError ZeroDivisionError
    ArithmeticError OverflowError RuntimeError NotImplementedError AttributeError StopIteration
""".split())

METHODS = set("""
    append clear copy count endswith extend find get index insert isalnum isalpha isdigit islower isspace isupper
    items join keys ljust lower lstrip partition pop remove replace reverse rfind rjust rpartition rsplit rstrip
    setdefault split splitlines startswith strip update upper values zfill bit_length
""".split())

UNUSED_WORDS = set("""
    type typing typing_extensions enum Enum IntEnum StrEnum Flag IntFlag Generic Protocol ABC ABCMeta
    namedtuple NamedTuple TypedDict TYPE_CHECKING abstractmethod
""".split())

UNUSED_NAMES = set("""
    register mro elements open input version_info with_traceback add_note format format_map args encode
""".split())

TWO_UNDERSCORES = {"__init__", "__eq__", "__repr__", "__str__", "__len__"}

CONTAINERS = (ast.List, ast.Dict)


def trees():
    return [(path, ast.parse(path.read_text("utf-8"))) for path in sorted(PACKAGE.glob("*.py"))]


def names_in(tree):
    """Every name that the file binds or reads, as a name, an attribute, a parameter or a def."""
    for node in ast.walk(tree):
        if isinstance(node, ast.Name):
            yield node.id
        elif isinstance(node, ast.Attribute):
            yield node.attr
        elif isinstance(node, ast.arg):
            yield node.arg
        elif isinstance(node, (ast.FunctionDef, ast.ClassDef)):
            yield node.name


def bound_at_the_top(tree):
    for node in tree.body:
        if isinstance(node, (ast.FunctionDef, ast.ClassDef)):
            yield node.name
        elif isinstance(node, ast.ImportFrom):
            yield from (one.name for one in node.names)
        elif isinstance(node, ast.Assign):
            yield from (target.id for target in node.targets)


class LanguageTest(unittest.TestCase):
    def test_files(self):
        for path in PACKAGE.iterdir():
            if path.name != "__pycache__":
                self.assertRegex(path.name, r"^[a-z0-9_]+\.py$")
                self.assertNotIn(path.stem, dir(builtins))
        self.assertTrue((PACKAGE / "__init__.py").is_file())

    def test_rows_and_signs(self):
        for path, _ in trees():
            text = path.read_text("utf-8")
            self.assertRegex(text, r"\A[ -~\n]*\Z", path)
            rows = text.split("\n")
            self.assertLessEqual(len(rows), 401, path)
            self.assertLessEqual(max(len(row) for row in rows), 120, path)
            words = set(re.findall(r"\w+", text))
            self.assertEqual(words & UNUSED_WORDS, set(), path)
            self.assertIsNone(re.search("dataclass|overload|contextmanager", text), path)

    def test_only_the_nodes_that_are_allowed(self):
        for path, tree in trees():
            for node in ast.walk(tree):
                self.assertIn(node.__class__.__name__, NODES, (path, getattr(node, "lineno", 0)))

    def test_imports(self):
        for path, tree in trees():
            for node in ast.walk(tree):
                self.assertNotIsInstance(node, ast.Import, path)
                if isinstance(node, ast.ImportFrom):
                    self.assertIn(node, tree.body, path)
                    self.assertEqual(node.level, 0, path)
                    self.assertTrue(node.module.startswith("sumworkers."), path)
                    source = PACKAGE / (node.module.split(".")[1] + ".py")
                    defined = [
                        one for part in ast.parse(source.read_text("utf-8")).body
                        if not isinstance(part, ast.ImportFrom)
                        for one in bound_at_the_top(ast.Module([part], []))
                    ]
                    for one in node.names:
                        self.assertIsNone(one.asname, path)
                        self.assertIn(one.name, defined, path)

    def test_no_two_files_draw_from_one_another(self):
        drawn = {
            path.stem: {node.module.split(".")[1] for node in tree.body if isinstance(node, ast.ImportFrom)}
            for path, tree in trees()
        }
        while drawn:
            free = [name for name in drawn if not drawn[name] & set(drawn)]
            self.assertNotEqual(free, [], drawn)
            for name in free:
                drawn.pop(name)

    def test_the_top_of_a_file(self):
        for path, tree in trees():
            names = list(bound_at_the_top(tree))
            self.assertEqual(len(names), len(set(names)), path)
            for node in tree.body:
                self.assertIsInstance(node, (ast.Expr, ast.ImportFrom, ast.FunctionDef, ast.ClassDef, ast.Assign))
                if isinstance(node, ast.Assign) and isinstance(node.value, CONTAINERS):
                    inner = [part for part in ast.walk(node.value) if isinstance(part, CONTAINERS)]
                    self.assertEqual(inner, [node.value], path)

    def test_names(self):
        for path, tree in trees():
            for name in names_in(tree):
                self.assertNotIn(name, UNUSED_NAMES, path)
                self.assertTrue(name in TWO_UNDERSCORES or re.fullmatch("[A-Za-z][A-Za-z0-9_]*", name), (path, name))

    def test_names_of_pythons_own(self):
        for path, tree in trees():
            for node in ast.walk(tree):
                if isinstance(node, ast.Name) and node.id in dir(builtins):
                    self.assertIn(node.id, OWN_NAMES, (path, node.lineno))
                    self.assertIsInstance(node.ctx, ast.Load, (path, node.lineno))
                if isinstance(node, (ast.FunctionDef, ast.ClassDef)):
                    self.assertNotIn(node.name, dir(builtins), path)
                if isinstance(node, ast.arg):
                    self.assertNotIn(node.arg, dir(builtins), path)

    def test_defs(self):
        for path, tree in trees():
            top = set(bound_at_the_top(tree))
            for node in ast.walk(tree):
                if not isinstance(node, ast.FunctionDef):
                    continue
                self.assertLessEqual(node.end_lineno - node.lineno + 1, 40, (path, node.name))
                self.assertEqual(node.decorator_list, [], (path, node.name))
                self.assertIsNone(node.returns, (path, node.name))
                given = node.args
                self.assertFalse(given.vararg or given.kwarg or given.kwonlyargs or given.posonlyargs)
                inner = [part for part in ast.walk(node) if isinstance(part, ast.Name)]
                stored = [part.id for part in inner if isinstance(part.ctx, ast.Store)]
                for name in [one.arg for one in given.args] + stored:
                    self.assertNotIn(name, top, (path, node.name))

    def test_classes(self):
        methods, values = set(), set()
        for path, tree in trees():
            for node in ast.walk(tree):
                if isinstance(node, ast.ClassDef):
                    self.assertIn(node, tree.body, path)
                    self.assertEqual(node.decorator_list, [], path)
                    self.assertLessEqual(len(node.bases), 1, path)
                    defs = [part.name for part in node.body if isinstance(part, ast.FunctionDef)]
                    self.assertEqual(len(defs) + 1, len(node.body), "a docstring and methods alone")
                    self.assertEqual(len(defs), len(set(defs)), path)
                    methods.update(defs)
                if isinstance(node, ast.Attribute) and isinstance(node.ctx, ast.Store):
                    values.add(node.attr)
        self.assertEqual(methods & values, set())
        python_s = {name for kind in (str, int, list, dict, set, bytes, tuple) for name in dir(kind)}
        self.assertEqual((methods - TWO_UNDERSCORES) & python_s, set())
        self.assertEqual(values & python_s, set())

    def test_methods_that_are_called(self):
        for path, tree in trees():
            called = {node.func for node in ast.walk(tree) if isinstance(node, ast.Call)}
            for node in ast.walk(tree):
                if isinstance(node, ast.Attribute) and node.attr in METHODS:
                    self.assertIn(node, called, (path, node.lineno))
                python_s = any(hasattr(kind, getattr(node, "attr", "")) for kind in (str, int, list, dict, set, bytes))
                if isinstance(node, ast.Attribute) and python_s:
                    self.assertIn(node.attr, METHODS, (path, node.lineno))

    def test_assignments_and_is(self):
        for path, tree in trees():
            for node in ast.walk(tree):
                if isinstance(node, ast.Assign):
                    self.assertEqual(len(node.targets), 1, (path, node.lineno))
                    self.assertNotIsInstance(node.targets[0], (ast.Tuple, ast.List), (path, node.lineno))
                if isinstance(node, (ast.For, ast.While)):
                    self.assertEqual(node.orelse, [], (path, node.lineno))
                if isinstance(node, ast.Compare) and isinstance(node.ops[0], (ast.Is, ast.IsNot)):
                    self.assertIsInstance(node.comparators[0], ast.Constant, (path, node.lineno))
                if isinstance(node, ast.Constant):
                    self.assertIsInstance(node.value, (int, str, bool, None.__class__), (path, node.lineno))
                    self.assertNotIn("%", str(node.value), (path, node.lineno))


if __name__ == "__main__":
    unittest.main()
