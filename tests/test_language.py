"""That the package keeps to its part of Python, as far as its text shows it."""

import ast
import builtins
import pathlib
import re
import unittest

PACKAGE = pathlib.Path(__file__).resolve().parent.parent / "exactchains"
FILES = sorted(PACKAGE.glob("*.py"))

NODES = set("""Module Expr Import ImportFrom alias FunctionDef ClassDef arguments arg Return Assign AugAssign For While
    If Break Continue Pass Raise Try ExceptHandler Constant Name Load Store Attribute Subscript Slice List Tuple Dict Set
    BinOp Add Sub Mult FloorDiv Mod Pow BitAnd BitOr BitXor LShift RShift UnaryOp USub Not Invert BoolOp And Or Compare Eq
    NotEq Lt LtE Gt GtE Is IsNot In NotIn IfExp Call keyword Lambda ListComp comprehension JoinedStr
    FormattedValue""".split())
BUILTINS = set("""len range enumerate zip min max sum abs sorted reversed int str bool list tuple dict set frozenset
    isinstance ord repr any all divmod Exception ValueError TypeError KeyError IndexError LookupError ZeroDivisionError
    ArithmeticError OverflowError RuntimeError NotImplementedError AttributeError StopIteration""".split())
METHODS = set("""append clear copy count endswith extend find get index insert isalnum isalpha isdigit islower isspace
    isupper items join keys ljust lower lstrip partition pop remove replace reverse rfind rjust rpartition rsplit rstrip
    setdefault split splitlines startswith strip update upper values zfill bit_length""".split())
WORDS = set("""type typing typing_extensions enum Enum IntEnum StrEnum Flag IntFlag Generic Protocol ABC ABCMeta namedtuple
    NamedTuple TypedDict TYPE_CHECKING abstractmethod register mro elements open input version_info with_traceback
    add_note""".split())
ROWS_OF_A_FILE, ROWS_OF_A_FUNCTION, SIGNS_OF_A_ROW = 399, 40, 120


def bound_names(tree):
    """The names that are bound anywhere in a file."""
    names = set()
    for node in ast.walk(tree):
        if isinstance(node, (ast.FunctionDef, ast.ClassDef)):
            names.add(node.name)
        elif isinstance(node, ast.arg):
            names.add(node.arg)
        elif isinstance(node, ast.Name) and isinstance(node.ctx, ast.Store):
            names.add(node.id)
        elif isinstance(node, ast.alias):
            names.add(node.name)
    return names


def own_members(trees):
    """The methods of the package's classes, and the values that its objects have."""
    methods, values = set(), set()
    for tree in trees:
        for node in ast.walk(tree):
            if isinstance(node, ast.ClassDef):
                methods.update(part.name for part in node.body if isinstance(part, ast.FunctionDef))
            if isinstance(node, ast.Attribute) and isinstance(node.ctx, ast.Store):
                values.add(node.attr)
    return methods, values


class Language(unittest.TestCase):
    def setUp(self):
        self.texts = {path.name: path.read_text(encoding="ascii") for path in FILES}
        self.trees = {name: ast.parse(text) for name, text in self.texts.items()}

    def nodes(self):
        for name, tree in self.trees.items():
            for node in ast.walk(tree):
                yield f"{name}:{getattr(node, 'lineno', 0)}", node

    def test_files(self):
        self.assertIn("chains.py", self.texts)
        for path in PACKAGE.iterdir():
            if path.name != "__pycache__":
                self.assertRegex(path.name, r"^([a-z][a-z0-9_]*|__init__)\.py$")

    def test_signs_and_sizes(self):
        for name, text in self.texts.items():
            rows = text.split("\n")
            self.assertLessEqual(len(rows) - 1, ROWS_OF_A_FILE, name)
            for number, row in enumerate(rows, 1):
                self.assertRegex(row, f"^[ -~]{{0,{SIGNS_OF_A_ROW}}}$", f"{name}:{number}")
        for place, node in self.nodes():
            if isinstance(node, ast.FunctionDef):
                self.assertLessEqual(node.end_lineno - node.lineno + 1, ROWS_OF_A_FUNCTION, place)

    def test_words(self):
        for name, text in self.texts.items():
            self.assertEqual(WORDS & set(re.findall(r"\w+", text)), set(), name)
            self.assertIsNone(re.search("dataclass|overload|contextmanager", text), name)

    def test_kinds_of_nodes(self):
        for place, node in self.nodes():
            self.assertIn(node.__class__.__name__, NODES, place)
            if isinstance(node, ast.Assign):
                self.assertEqual(len(node.targets), 1, place)
            if isinstance(node, (ast.For, ast.While)):
                self.assertEqual(node.orelse, [], place)
            if isinstance(node, ast.ListComp):
                self.assertEqual(len(node.generators), 1, place)
                self.assertLessEqual(len(node.generators[0].ifs), 1, place)
            if isinstance(node, (ast.FunctionDef, ast.ClassDef)):
                self.assertEqual(node.decorator_list, [], place)
            if isinstance(node, ast.Constant):
                self.assertIn(node.value.__class__, (int, str, bool, None.__class__), place)

    def test_imports(self):
        for place, node in self.nodes():
            self.assertNotIsInstance(node, ast.Import, place)
            if isinstance(node, ast.ImportFrom):
                file = self.trees[node.module.removeprefix("exactchains.") + ".py"]
                tops = {part.name for part in file.body if isinstance(part, (ast.FunctionDef, ast.ClassDef))}
                tops |= {part.targets[0].id for part in file.body if isinstance(part, ast.Assign)}
                self.assertTrue({alias.name for alias in node.names} <= tops, place)
        self.assertEqual(len(self.trees["__init__.py"].body), 1)

    def test_no_two_files_draw_from_one_another(self):
        drawn = {name: {node.module.removeprefix("exactchains.") + ".py" for node in tree.body
                        if isinstance(node, ast.ImportFrom)} for name, tree in self.trees.items()}
        while drawn:
            free = [name for name, others in drawn.items() if not others & set(drawn)]
            self.assertNotEqual(free, [], sorted(drawn))
            drawn = {name: others for name, others in drawn.items() if name not in free}

    def test_sets_are_not_kept(self):
        for place, node in self.nodes():
            for child in ast.iter_child_nodes(node):
                if isinstance(child, ast.Call) and isinstance(child.func, ast.Name) and child.func.id == "set":
                    counted = isinstance(node, ast.Call) and node.func.id in ("len", "sorted")
                    self.assertTrue(counted or isinstance(node, (ast.Compare, ast.BinOp)), place)

    def test_tops_of_files(self):
        for name, tree in self.trees.items():
            self.assertIsNotNone(ast.get_docstring(tree), name)
            for node in tree.body[1:]:
                self.assertIsInstance(node, (ast.ImportFrom, ast.FunctionDef, ast.ClassDef, ast.Assign), name)

    def test_names(self):
        for name, tree in self.trees.items():
            bound = bound_names(tree)
            for word in bound - {"__init__"}:
                self.assertRegex(word, "^[A-Za-z][A-Za-z0-9_]*$", name)
                self.assertFalse(hasattr(builtins, word), f"{name}: {word}")
            for node in ast.walk(tree):
                if isinstance(node, ast.Name) and node.id not in bound:
                    self.assertIn(node.id, BUILTINS, f"{name}:{node.lineno}")

    def test_locals_are_no_imports_or_classes(self):
        for name, tree in self.trees.items():
            tops = {alias.name for node in tree.body if isinstance(node, ast.ImportFrom) for alias in node.names}
            tops |= {node.name for node in tree.body if isinstance(node, ast.ClassDef)}
            for node in tree.body:
                if isinstance(node, (ast.FunctionDef, ast.ClassDef)):
                    inner = bound_names(node) - {node.name}
                    self.assertEqual(inner & tops, set(), f"{name}: {node.name}")

    def test_methods_and_values(self):
        methods, values = own_members(self.trees.values())
        self.assertEqual(methods & values, set())
        for word in methods | values:
            for kind in (int, str, list, tuple, dict, set, bytes):
                self.assertFalse(hasattr(kind, word) and word != "__init__", word)
        for place, node in self.nodes():
            if isinstance(node, ast.Attribute):
                self.assertIn(node.attr, METHODS | methods | values, place)


if __name__ == "__main__":
    unittest.main()
