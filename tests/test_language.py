"""Those rules of the language that a look at the package's files can tell.

Looked at are L1, L2, L5 to L8, L10, L12, L14, L17 and L25; of L3, L15, L16, L18, L20 to L24 and L26 what is told below.
"""

import ast
import builtins
import pathlib
import re
import unittest

PACKAGE = pathlib.Path(__file__).resolve().parent.parent / "creammixes"

NODES = (
    "Module Expr Constant ImportFrom alias Load Store FunctionDef arguments arg ClassDef Assign AugAssign If While For "
    "Return Break Continue Pass Raise Try ExceptHandler Name Attribute Subscript Slice Call keyword List Tuple Dict Set "
    "ListComp comprehension BinOp Add Sub Mult FloorDiv Mod Pow BitAnd BitOr BitXor LShift RShift UnaryOp USub UAdd Not "
    "Invert BoolOp And Or Compare Eq NotEq Lt LtE Gt GtE In NotIn Is IsNot IfExp JoinedStr FormattedValue Lambda"
).split()

OWN_NAMES = (
    "len range enumerate zip min max sum abs sorted reversed int str bool list tuple dict set frozenset isinstance ord "
    "repr any all divmod Exception ValueError TypeError KeyError IndexError LookupError ZeroDivisionError "
    "ArithmeticError OverflowError RuntimeError NotImplementedError AttributeError StopIteration"
).split()

OWN_METHODS = (
    "append clear copy count endswith extend find get index insert isalnum isalpha isdigit islower isspace isupper "
    "items join keys ljust lower lstrip partition pop remove replace reverse rfind rjust rpartition rsplit rstrip "
    "setdefault split splitlines startswith strip update upper values zfill bit_length"
).split()

WORDS = (
    "type typing typing_extensions enum Enum IntEnum StrEnum Flag IntFlag Generic Protocol ABC ABCMeta namedtuple "
    "NamedTuple TypedDict TYPE_CHECKING abstractmethod"
).split()


def sources():
    return [(path, path.read_text(encoding="utf-8")) for path in sorted(PACKAGE.rglob("*.py"))]


def nodes():
    for path, text in sources():
        for node in ast.walk(ast.parse(text)):
            yield path.name, node


def trees():
    return [(path.stem, ast.parse(text)) for path, text in sources()]


def top_names(tree):
    """What a file defines at its top, without what it imports."""
    names = [node.name for node in tree.body if isinstance(node, (ast.FunctionDef, ast.ClassDef))]
    names += [target.id for node in tree.body if isinstance(node, ast.Assign) for target in node.targets]
    return names


def imports(tree):
    return [node for node in tree.body if isinstance(node, ast.ImportFrom)]


class Files(unittest.TestCase):
    def test_the_top_holds_nothing_that_does_something(self):
        for stem, tree in trees():
            self.assertIsNotNone(ast.get_docstring(tree), stem)
            for node in tree.body[1:]:
                self.assertIsInstance(node, (ast.ImportFrom, ast.FunctionDef, ast.ClassDef, ast.Assign), stem)
                if isinstance(node, ast.Assign):
                    # Fails if it is not a plain value.
                    ast.literal_eval(node.value)

    def test_each_name_is_bound_once_at_the_top(self):
        for stem, tree in trees():
            names = top_names(tree) + [each.name for node in imports(tree) for each in node.names]
            self.assertEqual(len(names), len(set(names)), stem)

    def test_imports_stand_at_the_top_and_draw_from_the_file_that_defines(self):
        files = dict(trees())
        for stem, tree in trees():
            inside = [node for node in ast.walk(tree) if isinstance(node, ast.ImportFrom)]
            self.assertEqual(len(inside), len(imports(tree)), stem)
            for node in imports(tree):
                for each in node.names:
                    self.assertIsNone(each.asname, stem)
                    self.assertIn(each.name, top_names(files[node.module.split(".")[-1]]), stem)

    def test_no_two_files_draw_from_one_another(self):
        drawn = {stem: {node.module.split(".")[-1] for node in imports(tree)} for stem, tree in trees()}
        while drawn:
            free = [stem for stem in drawn if not drawn[stem]]
            self.assertTrue(free, drawn)
            drawn = {stem: others - set(free) for stem, others in drawn.items() if stem not in free}

    def test_no_local_is_called_like_a_class_or_an_import(self):
        for stem, tree in trees():
            taken = {each.name for node in imports(tree) for each in node.names}
            taken |= {node.name for node in tree.body if isinstance(node, ast.ClassDef)}
            for node in ast.walk(tree):
                if isinstance(node, ast.arg):
                    self.assertNotIn(node.arg, taken, stem)
                if isinstance(node, ast.Name) and isinstance(node.ctx, ast.Store):
                    self.assertNotIn(node.id, taken, stem)


class Forms(unittest.TestCase):
    def setUp(self):
        # They are kept, so that each stays the one it is.
        self.kept = list(nodes())

    def test_no_name_is_a_method_and_a_value(self):
        methods = []
        values = set()
        for name, node in nodes():
            if isinstance(node, ast.ClassDef):
                own = [each.name for each in node.body if isinstance(each, ast.FunctionDef)]
                self.assertEqual(len(own), len(set(own)), node.name)
                methods += own
            if isinstance(node, ast.Attribute) and isinstance(node.ctx, ast.Store):
                values.add(node.attr)
        self.assertEqual(values & set(methods), set())

    def test_own_methods_and_values_are_not_called_like_python_s(self):
        python_s = {each for kind in (str, int, list, dict, set, bytes) for each in dir(kind)}
        for name, node in nodes():
            if isinstance(node, ast.Attribute) and isinstance(node.ctx, ast.Store):
                self.assertNotIn(node.attr, python_s, name)
            if isinstance(node, ast.ClassDef):
                for each in node.body:
                    if isinstance(each, ast.FunctionDef):
                        self.assertNotIn(each.name, python_s - {"__init__", "add"}, name)

    def test_methods_are_called_where_they_stand(self):
        methods = {each.name for name, node in nodes() if isinstance(node, ast.ClassDef)
                   for each in node.body if isinstance(each, ast.FunctionDef)}
        called = {id(node.func) for name, node in self.kept if isinstance(node, ast.Call)}
        for name, node in self.kept:
            if isinstance(node, ast.Attribute) and node.attr in methods:
                self.assertIn(id(node), called, f"{name} {node.attr}")

    def test_is_stands_beside_none_true_false(self):
        for name, node in nodes():
            if isinstance(node, ast.Compare) and isinstance(node.ops[0], (ast.Is, ast.IsNot)):
                self.assertIn(ast.unparse(node.comparators[0]), ("None", "True", "False"), name)

    def test_no_annotation_and_no_keyword(self):
        for name, node in nodes():
            self.assertIsNone(getattr(node, "annotation", None), name)
            self.assertIsNone(getattr(node, "returns", None), name)
            if isinstance(node, ast.Call):
                self.assertEqual(node.keywords, [], name)

    def test_walked_at_once(self):
        walked = set()
        for name, node in self.kept:
            if isinstance(node, (ast.For, ast.comprehension)):
                walked.add(id(node.iter))
        for name, node in self.kept:
            if isinstance(node, ast.Call) and isinstance(node.func, ast.Name):
                if node.func.id in ("zip", "enumerate", "reversed", "range"):
                    self.assertIn(id(node), walked, f"{name} {node.lineno}")
                self.assertNotIn(node.func.id, ("set", "frozenset"), name)


class Language(unittest.TestCase):
    def test_nothing_else_lies_in_the_package(self):
        self.assertTrue((PACKAGE / "__init__.py").is_file())
        for path in PACKAGE.iterdir():
            if path.name != "__pycache__":
                self.assertRegex(path.name, r"^[a-z0-9_]+\.py$")

    def test_signs_and_sizes(self):
        for path, text in sources():
            self.assertLessEqual(set(text), set(map(chr, range(32, 127))) | {"\n"}, path.name)
            rows = text.split("\n")
            self.assertLessEqual(len(rows), 400, path.name)
            self.assertLessEqual(max(map(len, rows)), 120, path.name)

    def test_functions_have_at_most_40_lines(self):
        for name, node in nodes():
            if isinstance(node, ast.FunctionDef):
                self.assertLessEqual(node.end_lineno - node.lineno + 1, 40, f"{name} {node.name}")

    def test_words_that_stand_nowhere(self):
        for path, text in sources():
            for word in WORDS:
                self.assertIsNone(re.search(rf"\b{word}\b", text), f"{path.name} {word}")
            self.assertIsNone(re.search("dataclass|overload|contextmanager", text), path.name)

    def test_statements_and_expressions(self):
        for name, node in nodes():
            kind = node.__class__.__name__
            self.assertIn(kind, NODES, f"{name} {getattr(node, 'lineno', '')}")
            if isinstance(node, ast.Constant):
                self.assertIn(node.value.__class__, (int, str, bool, None.__class__), name)
            if isinstance(node, ast.Assign):
                self.assertEqual(len(node.targets), 1, name)
            if isinstance(node, (ast.FunctionDef, ast.ClassDef)):
                self.assertEqual(node.decorator_list, [], name)
            if isinstance(node, ast.arguments):
                self.assertEqual((node.vararg, node.kwarg, node.kwonlyargs), (None, None, []), name)

    def test_imports_are_the_package_s_own(self):
        for name, node in nodes():
            if isinstance(node, ast.ImportFrom):
                self.assertEqual(node.level, 0, name)
                self.assertTrue(node.module.startswith("creammixes."), f"{name} {node.module}")

    def test_names(self):
        for name, node in nodes():
            if isinstance(node, ast.Name):
                self.assertRegex(node.id, r"^[A-Za-z][A-Za-z0-9_]*$", name)
                if hasattr(builtins, node.id):
                    self.assertIn(node.id, OWN_NAMES, name)
                    self.assertIsInstance(node.ctx, ast.Load, f"{name} {node.id}")
            if isinstance(node, ast.arg):
                self.assertFalse(hasattr(builtins, node.arg), f"{name} {node.arg}")

    def test_methods_are_own_or_listed(self):
        own = {node.name for name, node in nodes() if isinstance(node, ast.FunctionDef)}
        for name, node in nodes():
            if isinstance(node, ast.Call) and isinstance(node.func, ast.Attribute):
                self.assertIn(node.func.attr, own | set(OWN_METHODS), name)


if __name__ == "__main__":
    unittest.main()
