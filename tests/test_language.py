"""The package keeps to its small part of Python, so far as a look at its files can tell."""

import ast
import builtins
import re
import unittest
from pathlib import Path

PACKAGE = Path(__file__).resolve().parent.parent / "treatyjoin"

BUILT_IN = set(
    "len range enumerate zip min max sum abs sorted reversed int str bool list tuple dict isinstance ord repr any all"
    " divmod".split()
)
METHODS = set(
    "append clear copy count endswith extend find get index insert isalnum isalpha isdigit islower isspace isupper"
    " items join keys ljust lower lstrip partition pop remove replace reverse rfind rjust rpartition rsplit rstrip"
    " setdefault split splitlines startswith strip update upper values zfill bit_length".split()
)
WORDS = (
    r"\b(type|typing|typing_extensions|enum|Enum|IntEnum|StrEnum|Flag|IntFlag|Generic|Protocol|ABC|ABCMeta|namedtuple"
    r"|NamedTuple|TypedDict|TYPE_CHECKING|abstractmethod)\b|dataclass|overload|contextmanager"
)
NODES = (
    "Module Expr Constant ImportFrom alias FunctionDef arguments arg ClassDef Assign AugAssign Name Load Store"
    " Attribute Subscript Slice Tuple List Dict Call keyword Return If IfExp While For Break Continue Pass ListComp"
    " comprehension BinOp UnaryOp BoolOp Compare Add Sub Mult FloorDiv Mod LShift RShift BitAnd BitOr BitXor Invert"
    " USub Not And Or Eq NotEq Lt LtE Gt GtE In NotIn"
).split()


def files():
    return sorted(path for path in PACKAGE.rglob("*") if "__pycache__" not in path.parts)


def bound_names(tree):
    bound = set()
    for node in ast.walk(tree):
        if isinstance(node, (ast.FunctionDef, ast.ClassDef)):
            bound.add(node.name)
        elif isinstance(node, ast.arg):
            bound.add(node.arg)
        elif isinstance(node, ast.alias):
            bound.add(node.asname or node.name)
        elif isinstance(node, ast.Name) and isinstance(node.ctx, ast.Store):
            bound.add(node.id)
    return bound


class Language(unittest.TestCase):
    def setUp(self):
        self.texts = {path: path.read_bytes().decode("utf-8") for path in files()}
        self.trees = {path: ast.parse(text) for path, text in self.texts.items()}

    def nodes(self, *kinds):
        for path, tree in self.trees.items():
            for node in ast.walk(tree):
                if isinstance(node, kinds):
                    yield path, node

    def test_files(self):
        self.assertIn(PACKAGE / "__init__.py", self.texts)
        for path in self.texts:
            self.assertRegex(path.name, r"^(__init__|[a-z][a-z0-9_]*)\.py$")

    def test_signs_sizes_and_words(self):
        for path, text in self.texts.items():
            self.assertIsNone(re.search(r"[^ -~\n]", text), path)
            self.assertIsNone(re.search(WORDS, text), path)
            rows = text.split("\n")
            self.assertLessEqual(len(rows), 400, path)
            self.assertLessEqual(max(len(row) for row in rows), 120, path)
        for path, node in self.nodes(ast.FunctionDef):
            self.assertLessEqual(node.end_lineno - node.lineno + 1, 40, (path, node.name))

    def test_forms(self):
        for path, node in self.nodes(ast.AST):
            self.assertIn(type(node).__name__, NODES, (path, getattr(node, "lineno", None)))
        for path, node in self.nodes(ast.Assign):
            self.assertEqual(len(node.targets), 1, (path, node.lineno))
        for path, node in self.nodes(ast.For, ast.While):
            self.assertEqual(node.orelse, [], (path, node.lineno))
        for path, node in self.nodes(ast.FunctionDef, ast.ClassDef):
            self.assertEqual(node.decorator_list, [], (path, node.lineno))

    def test_imports(self):
        for path, node in self.nodes(ast.ImportFrom):
            self.assertEqual(node.level, 0, path)
            self.assertRegex(node.module, r"^treatyjoin\.[a-z_]+$", path)

    def test_names(self):
        for path, tree in self.trees.items():
            bound = bound_names(tree)
            self.assertEqual(bound & set(dir(builtins)), set(), path)
            for name in bound - {"__init__"}:
                self.assertRegex(name, r"^[A-Za-z][A-Za-z0-9_]*$", path)
            for node in ast.walk(tree):
                if isinstance(node, ast.Name):
                    self.assertIn(node.id, bound | BUILT_IN, (path, node.lineno))

    def test_methods(self):
        own = {node.name for path, node in self.nodes(ast.FunctionDef)}
        for path, node in self.nodes(ast.Call):
            if isinstance(node.func, ast.Attribute):
                self.assertIn(node.func.attr, own | METHODS, (path, node.lineno))

    def test_each_name_once_at_the_top(self):
        for path, tree in self.trees.items():
            top = []
            for node in tree.body:
                if isinstance(node, (ast.FunctionDef, ast.ClassDef)):
                    top.append(node.name)
                elif isinstance(node, ast.ImportFrom):
                    top.extend(alias.name for alias in node.names)
                elif isinstance(node, ast.Assign):
                    top.append(node.targets[0].id)
            self.assertEqual(sorted(top), sorted(set(top)), path)
            inner = {node.arg for node in ast.walk(tree) if isinstance(node, ast.arg)}
            self.assertEqual(inner & set(top), set(), path)

    def test_methods_and_values_of_objects(self):
        methods = set()
        values = set()
        for path, node in self.nodes(ast.ClassDef):
            methods |= {part.name for part in node.body if isinstance(part, ast.FunctionDef)} - {"__init__"}
        for path, node in self.nodes(ast.Attribute):
            if isinstance(node.ctx, ast.Store):
                values.add(node.attr)
        self.assertEqual(methods & values, set())
        for kind in (str, int, list, tuple, dict, set, bytes):
            self.assertEqual((methods | values) & set(dir(kind)), set())

    def test_key_is_the_only_keyword(self):
        for path, node in self.nodes(ast.Call):
            for given in node.keywords:
                self.assertIn(node.func.id, ("min", "max", "sorted"), (path, node.lineno))
                self.assertEqual(given.arg, "key", (path, node.lineno))
