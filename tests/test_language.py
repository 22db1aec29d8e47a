"""The package's files held against those rules of the language that can be read off a file."""

import ast
import builtins
import pathlib
import re
import unittest

PACKAGE = pathlib.Path(__file__).resolve().parent.parent / "trackmarks"
FILES = sorted(PACKAGE.glob("*.py"))

NODES = (
    "Module ImportFrom alias FunctionDef ClassDef arguments arg Lambda Assign AugAssign If While For Return Break "
    "Continue Pass Raise Try ExceptHandler Expr Constant List Tuple Dict Set Name Attribute Subscript Slice Load Store "
    "BinOp Add Sub Mult FloorDiv Mod Pow BitAnd BitOr BitXor LShift RShift UnaryOp USub UAdd Not Invert BoolOp And Or "
    "Compare Eq NotEq Lt LtE Gt GtE In NotIn Is IsNot IfExp Call keyword ListComp comprehension JoinedStr "
    "FormattedValue").split()
OWN_NAMES = (
    "len range enumerate zip min max sum abs sorted reversed int str bool list tuple dict set frozenset isinstance ord "
    "repr any all divmod Exception ValueError TypeError KeyError IndexError LookupError ZeroDivisionError "
    "ArithmeticError OverflowError RuntimeError NotImplementedError AttributeError StopIteration").split()
OWN_METHODS = (
    "append clear copy count endswith extend find get index insert isalnum isalpha isdigit islower isspace isupper "
    "items join keys ljust lower lstrip partition pop remove replace reverse rfind rjust rpartition rsplit rstrip "
    "setdefault split splitlines startswith strip update upper values zfill bit_length").split()
WORDS = (
    "type typing typing_extensions enum Enum IntEnum StrEnum Flag IntFlag Generic Protocol ABC ABCMeta namedtuple "
    "NamedTuple TypedDict TYPE_CHECKING abstractmethod").split()
UNUSED = "register mro elements open input version_info with_traceback add_note format format_map".split()
DUNDERS = ("__init__", "__eq__", "__repr__", "__str__", "__len__")
PYTHONS_VALUES = ("", 0, [], {}, set(), b"", ())


def walk(path):
    return ast.walk(ast.parse(path.read_text()))


def found(path, kind):
    return [node for node in walk(path) if isinstance(node, kind)]


def names_bound(path):
    names = [node.id for node in found(path, ast.Name) if isinstance(node.ctx, ast.Store)]
    names += [node.arg for node in found(path, ast.arg)]
    return names


def names_defined(path):
    tree = ast.parse(path.read_text())
    names = [node.name for node in tree.body if isinstance(node, (ast.FunctionDef, ast.ClassDef))]
    for node in tree.body:
        if isinstance(node, ast.Assign):
            names.append(node.targets[0].id)
    return names


def names_imported(path):
    return [alias.name for node in found(path, ast.ImportFrom) for alias in node.names]


def methods(path):
    return [node.name for kind in found(path, ast.ClassDef) for node in kind.body if isinstance(node, ast.FunctionDef)]


def values(path):
    return [node.attr for node in found(path, ast.Attribute) if isinstance(node.ctx, ast.Store)]


class LanguageTest(unittest.TestCase):

    def test_files(self):
        self.assertTrue(FILES)
        self.assertIn(PACKAGE / "__init__.py", FILES)
        for path in PACKAGE.iterdir():
            if path.name != "__pycache__":
                self.assertRegex(path.name, r"\A([a-z][a-z0-9_]*|__init__)\.py\Z")
                self.assertNotIn(path.stem, dir(builtins))

    def test_signs_and_size(self):
        for path in FILES:
            self.assertRegex(path.read_bytes().decode("ascii"), r"\A[ -~\n]*\Z", path.name)
            rows = path.read_text().split("\n")
            self.assertLessEqual(len(rows), 400, path.name)
            self.assertLessEqual(max(len(row) for row in rows), 120, path.name)
            for node in found(path, ast.FunctionDef):
                self.assertLessEqual(node.end_lineno - node.lineno + 1, 40, node.name)

    def test_words_that_stand_nowhere(self):
        for path in FILES:
            words = re.findall(r"\w+", path.read_text())
            self.assertEqual(sorted(set(words) & set(WORDS)), [], path.name)
            self.assertEqual(re.findall("dataclass|overload|contextmanager", path.read_text()), [], path.name)

    def test_nodes(self):
        passed_over = (ast.expr_context,)
        for path in FILES:
            for node in walk(path):
                if not isinstance(node, passed_over):
                    self.assertIn(node.__class__.__name__, NODES, (path.name, getattr(node, "lineno", 0)))

    def test_statements(self):
        for path in FILES:
            for node in found(path, (ast.For, ast.While)):
                self.assertEqual(node.orelse, [], path.name)
            for node in found(path, ast.Assign):
                self.assertEqual(len(node.targets), 1)
                self.assertIsInstance(node.targets[0], (ast.Name, ast.Attribute, ast.Subscript), path.name)
            for node in found(path, ast.Expr):
                is_text = isinstance(node.value, ast.Constant) and isinstance(node.value.value, str)
                self.assertTrue(is_text or isinstance(node.value, ast.Call), path.name)
            for node in found(path, ast.Constant):
                self.assertIsInstance(node.value, (int, str, bool, None.__class__), path.name)
            for node in found(path, ast.ListComp):
                self.assertEqual(len(node.generators), 1, path.name)
                self.assertLessEqual(len(node.generators[0].ifs), 1, path.name)

    def test_functions_and_classes(self):
        for path in FILES:
            for node in found(path, (ast.FunctionDef, ast.ClassDef)):
                self.assertEqual(node.decorator_list, [], node.name)
            for node in found(path, ast.arguments):
                self.assertEqual((node.vararg, node.kwarg, node.kwonlyargs, node.posonlyargs), (None, None, [], []))
            for node in found(path, ast.ClassDef):
                self.assertLessEqual(len(node.bases), 1)
                for part in node.body:
                    self.assertIsInstance(part, (ast.FunctionDef, ast.Expr), node.name)

    def test_imports(self):
        drawn = {}
        for path in FILES:
            drawn[path.stem] = []
            for node in found(path, ast.ImportFrom):
                self.assertEqual(node.level, 0)
                self.assertEqual(node.col_offset, 0)
                package, stem = node.module.split(".")
                self.assertEqual(package, "trackmarks")
                defined = names_defined(PACKAGE / (stem + ".py"))
                for alias in node.names:
                    self.assertIn(alias.name, defined)
                drawn[path.stem].append(stem)
        while drawn:
            free = [stem for stem in drawn if not set(drawn[stem]) & set(drawn)]
            self.assertTrue(free, "files draw from one another")
            drawn = {stem: drawn[stem] for stem in drawn if stem not in free}

    def test_names(self):
        for path in FILES:
            own = set(names_bound(path) + names_defined(path) + names_imported(path))
            for name in own | set(methods(path)) | set(values(path)):
                self.assertTrue(name in DUNDERS or re.fullmatch(r"[A-Za-z][A-Za-z0-9_]*", name), name)
                self.assertNotIn(name, UNUSED)
            self.assertEqual(sorted(own & set(dir(builtins))), [], path.name)
            for node in found(path, ast.Name):
                self.assertIn(node.id, own | set(OWN_NAMES), path.name)
            self.assertEqual(len(names_defined(path)), len(set(names_defined(path))), path.name)
            tops = names_imported(path) + [node.name for node in found(path, ast.ClassDef)]
            self.assertEqual(sorted(set(names_bound(path)) & set(tops)), [], path.name)

    def test_attributes(self):
        every_method = {name for path in FILES for name in methods(path)}
        every_value = {name for path in FILES for name in values(path)}
        self.assertEqual(sorted(every_method & every_value), [])
        for name in (every_method | every_value) - set(DUNDERS):
            self.assertFalse(any(hasattr(value, name) for value in PYTHONS_VALUES), name)
        for path in FILES:
            for node in found(path, ast.Attribute):
                self.assertIn(node.attr, every_method | every_value | set(OWN_METHODS), path.name)

    def test_is_stands_beside_none_true_and_false(self):
        for path in FILES:
            for node in found(path, ast.Compare):
                if isinstance(node.ops[0], (ast.Is, ast.IsNot)):
                    self.assertIsInstance(node.comparators[0], ast.Constant)
                    self.assertIn(node.comparators[0].value, (None, True, False))
