"""The rules of the language that a look at the package's files can tell (L1, L2, L5 to L8, L10, L12, L14, L17, L25)."""

import ast
import builtins
import pathlib
import re
import unittest

PACKAGE = pathlib.Path(__file__).resolve().parent.parent / "creammixes"

NODES = (
    "Module Expr Constant ImportFrom alias Load Store FunctionDef arguments arg ClassDef Assign AugAssign If While For "
    "Return Break Continue Pass Raise Try ExceptHandler Name Attribute Subscript Slice Call keyword List Tuple Dict Set "
    "ListComp comprehension BinOp Add Sub Mult FloorDiv Mod Pow BitAnd BitOr BitXor LShift RShift UnaryOp USub UAdd Not "
    "Invert BoolOp And Or Compare Eq NotEq Lt LtE Gt GtE In NotIn Is IsNot IfExp JoinedStr FormattedValue Lambda"
).split()

OWN_NAMES = (
    "len range enumerate zip min max sum abs sorted reversed int str bool list tuple dict set frozenset isinstance ord "
    "repr any all divmod Exception ValueError TypeError KeyError IndexError LookupError ZeroDivisionError "
    "ArithmeticError OverflowError RuntimeError NotImplementedError AttributeError StopIteration"
).split()

OWN_METHODS = (
    "append clear copy count endswith extend find get index insert isalnum isalpha isdigit islower isspace isupper "
    "items join keys ljust lower lstrip partition pop remove replace reverse rfind rjust rpartition rsplit rstrip "
    "setdefault split splitlines startswith strip update upper values zfill bit_length"
).split()

WORDS = (
    "type typing typing_extensions enum Enum IntEnum StrEnum Flag IntFlag Generic Protocol ABC ABCMeta namedtuple "
    "NamedTuple TypedDict TYPE_CHECKING abstractmethod"
).split()


def sources():
    return [(path, path.read_text(encoding="utf-8")) for path in sorted(PACKAGE.rglob("*.py"))]


def nodes():
    for path, text in sources():
        for node in ast.walk(ast.parse(text)):
            yield path.name, node


class Language(unittest.TestCase):
    def test_nothing_else_lies_in_the_package(self):
        self.assertTrue((PACKAGE / "__init__.py").is_file())
        for path in PACKAGE.iterdir():
            if path.name != "__pycache__":
                self.assertRegex(path.name, r"^[a-z0-9_]+\.py$")

    def test_signs_and_sizes(self):
        for path, text in sources():
            self.assertLessEqual(set(text), set(map(chr, range(32, 127))) | {"\n"}, path.name)
            rows = text.split("\n")
            self.assertLessEqual(len(rows), 400, path.name)
            self.assertLessEqual(max(map(len, rows)), 120, path.name)

    def test_functions_have_at_most_40_lines(self):
        for name, node in nodes():
            if isinstance(node, ast.FunctionDef):
                self.assertLessEqual(node.end_lineno - node.lineno + 1, 40, f"{name} {node.name}")

    def test_words_that_stand_nowhere(self):
        for path, text in sources():
            for word in WORDS:
                self.assertIsNone(re.search(rf"\b{word}\b", text), f"{path.name} {word}")
            self.assertIsNone(re.search("dataclass|overload|contextmanager", text), path.name)

    def test_statements_and_expressions(self):
        for name, node in nodes():
            kind = node.__class__.__name__
            self.assertIn(kind, NODES, f"{name} {getattr(node, 'lineno', '')}")
            if isinstance(node, ast.Constant):
                self.assertIn(node.value.__class__, (int, str, bool, None.__class__), name)
            if isinstance(node, ast.Assign):
                self.assertEqual(len(node.targets), 1, name)
            if isinstance(node, (ast.FunctionDef, ast.ClassDef)):
                self.assertEqual(node.decorator_list, [], name)
            if isinstance(node, ast.arguments):
                self.assertEqual((node.vararg, node.kwarg, node.kwonlyargs), (None, None, []), name)

    def test_imports_are_the_package_s_own(self):
        for name, node in nodes():
            if isinstance(node, ast.ImportFrom):
                self.assertEqual(node.level, 0, name)
                self.assertTrue(node.module.startswith("creammixes."), f"{name} {node.module}")

    def test_names(self):
        for name, node in nodes():
            if isinstance(node, ast.Name):
                self.assertRegex(node.id, r"^[A-Za-z][A-Za-z0-9_]*$", name)
                if hasattr(builtins, node.id):
                    self.assertIn(node.id, OWN_NAMES, name)
                    self.assertIsInstance(node.ctx, ast.Load, f"{name} {node.id}")
            if isinstance(node, ast.arg):
                self.assertFalse(hasattr(builtins, node.arg), f"{name} {node.arg}")

    def test_methods_are_own_or_listed(self):
        own = {node.name for name, node in nodes() if isinstance(node, ast.FunctionDef)}
        for name, node in nodes():
            if isinstance(node, ast.Call) and isinstance(node.func, ast.Attribute):
                self.assertIn(node.func.attr, own | set(OWN_METHODS), name)


if __name__ == "__main__":
    unittest.main()
