"""The package's files keep to the part of Python that is allowed, as far as a short walk can see it."""

import ast
import builtins
import re
import unittest
from pathlib import Path

PACKAGE = Path(__file__).resolve().parent.parent / "inkpaper"

NODES = set("""
Module Expr FunctionDef ClassDef arguments arg Return Assign AugAssign If While For Break Continue Pass Raise Try
ExceptHandler ImportFrom alias Import Name Load Store Attribute Subscript Slice Call keyword Constant List Tuple Dict Set
BinOp Add Sub Mult FloorDiv Mod Pow BitAnd BitOr BitXor LShift RShift UnaryOp USub Not Invert BoolOp And Or
Compare Eq NotEq Lt LtE Gt GtE In NotIn Is IsNot IfExp ListComp comprehension Lambda JoinedStr FormattedValue
""".split())
NAMES = set("""
len range enumerate zip min max sum abs sorted reversed int str bool list tuple dict set frozenset isinstance ord repr
any all divmod Exception ValueError TypeError KeyError IndexError LookupError ZeroDivisionError ArithmeticError
OverflowError RuntimeError NotImplementedError AttributeError StopIteration
""".split())
METHODS = set("""
append clear copy count endswith extend find get index insert isalnum isalpha isdigit islower isspace isupper items join
keys ljust lower lstrip partition pop remove replace reverse rfind rjust rpartition rsplit rstrip setdefault split
splitlines startswith strip update upper values zfill bit_length
""".split())
WORDS = re.compile(r"\b(type|typing|typing_extensions|enum|Enum|IntEnum|StrEnum|Flag|IntFlag|Generic|Protocol|ABC|ABCMeta"
                   r"|namedtuple|NamedTuple|TypedDict|TYPE_CHECKING|abstractmethod)\b|dataclass|overload|contextmanager")


class Language(unittest.TestCase):
    def setUp(self):
        self.texts = {path.name: path.read_text(encoding="utf-8") for path in PACKAGE.glob("*.py")}
        self.nodes = [(name, node) for name, text in self.texts.items() for node in ast.walk(ast.parse(text))]

    def named(self, sort):
        return [(name, node) for name, node in self.nodes if isinstance(node, sort)]

    def test_files(self):
        self.assertIn("__init__.py", self.texts)
        found = {path.name for path in PACKAGE.iterdir()} - {"__pycache__"}
        self.assertEqual(found, set(self.texts))
        for name in self.texts:
            self.assertRegex(name, r"^(__init__|[a-z][a-z0-9_]*)\.py$")

    def test_signs_and_sizes(self):
        for name, text in self.texts.items():
            self.assertRegex(text, r"\A[ -~\n]*\Z", name)
            self.assertIsNone(WORDS.search(text), name)
            self.assertLessEqual(len(text.splitlines()), 400, name)
            self.assertLessEqual(max(map(len, text.splitlines())), 120, name)
        for name, node in self.named(ast.FunctionDef):
            self.assertLess(node.end_lineno - node.lineno, 40, (name, node.name))

    def test_imports(self):
        self.assertEqual(self.named(ast.Import), [])
        for name, node in self.named(ast.ImportFrom):
            self.assertEqual(node.level, 0, name)
            self.assertTrue(node.module.startswith("inkpaper."), (name, node.module))
            self.assertNotIn("*", [entry.name for entry in node.names], name)

    def test_parts_of_the_language(self):
        for name, node in self.nodes:
            self.assertIn(type(node).__name__, NODES, (name, getattr(node, "lineno", None)))
        for name, node in self.named(ast.Constant):
            self.assertIn(type(node.value), (int, str, bool, type(None)), (name, node.lineno))
        for name, node in self.named(ast.Assign):
            self.assertEqual(len(node.targets), 1, (name, node.lineno))
        for name, node in self.named((ast.While, ast.For)):
            self.assertEqual(node.orelse, [], (name, node.lineno))
        for name, node in self.named((ast.FunctionDef, ast.ClassDef)):
            self.assertEqual(node.decorator_list, [], (name, node.name))
        for name, node in self.named(ast.Compare):
            if any(isinstance(sign, (ast.Is, ast.IsNot)) for sign in node.ops):
                self.assertIn(ast.unparse(node.comparators[-1]), ("None", "True", "False"), (name, node.lineno))

    def test_names(self):
        for name, node in self.named(ast.Name):
            self.assertRegex(node.id, r"^[A-Za-z][A-Za-z0-9_]*$", (name, node.lineno))
            if hasattr(builtins, node.id):
                self.assertIn(node.id, NAMES, (name, node.lineno))
                self.assertIsInstance(node.ctx, ast.Load, (name, node.lineno))
        for name, node in self.named(ast.arg):
            self.assertFalse(hasattr(builtins, node.arg), (name, node.arg))

    def test_no_local_is_called_like_an_import_or_a_class(self):
        taken = {(name, entry.name) for name, node in self.named(ast.ImportFrom) for entry in node.names}
        taken |= {(name, node.name) for name, node in self.named(ast.ClassDef)}
        bound = {(name, node.id) for name, node in self.named(ast.Name) if isinstance(node.ctx, ast.Store)}
        bound |= {(name, node.arg) for name, node in self.named(ast.arg)}
        self.assertEqual(taken & bound, set())

    def test_no_name_is_a_method_and_a_value(self):
        methods = {entry.name for name, node in self.named(ast.ClassDef) for entry in node.body
                   if isinstance(entry, ast.FunctionDef)}
        values = {node.attr for name, node in self.named(ast.Attribute) if isinstance(node.ctx, ast.Store)}
        self.assertEqual(methods & values, set())

    def test_methods(self):
        own = {node.name for name, node in self.named(ast.FunctionDef)}
        for name, node in self.named(ast.Call):
            if isinstance(node.func, ast.Attribute):
                self.assertIn(node.func.attr, METHODS | own | {"__init__"}, (name, node.lineno))


if __name__ == "__main__":
    unittest.main()
