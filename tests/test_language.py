"""That the package keeps to the small part of Python that it is written in.

Only what a walk over the files can see is looked for here; the rules' numbers stand beside the checks.
"""

import ast
import builtins
import pathlib
import re
import unittest

PACKAGE = pathlib.Path(__file__).resolve().parent.parent / "grownwords"

# L6, L7: what else Python has is left out.
NODES = set("""
Module Import ImportFrom alias FunctionDef arguments arg ClassDef Lambda Return Assign AugAssign AnnAssign If While For
Break Continue Pass Raise Try ExceptHandler Expr Call Attribute Subscript Slice Name Constant List Tuple Dict Set
ListComp comprehension BinOp UnaryOp BoolOp Compare IfExp JoinedStr FormattedValue keyword Load Store
Add Sub Mult FloorDiv Mod Pow LShift RShift BitOr BitXor BitAnd Invert UAdd USub Not And Or
Eq NotEq Lt LtE Gt GtE Is IsNot In NotIn
""".split())
# L8 and L27
BUILTINS = set("""
len range enumerate zip min max sum abs sorted reversed int str bool list tuple dict set frozenset isinstance ord repr
any all divmod Exception ValueError TypeError KeyError IndexError LookupError ZeroDivisionError ArithmeticError
OverflowError RuntimeError NotImplementedError AttributeError StopIteration True False None object
""".split())
# L25
METHODS = set("""
append clear copy count endswith extend find get index insert isalnum isalpha isdigit islower isspace isupper items join
keys ljust lower lstrip partition pop remove replace reverse rfind rjust rpartition rsplit rstrip setdefault split
splitlines startswith strip update upper values zfill bit_length
""".split())
# L5
SPECIAL = set("__init__ __eq__ __repr__ __str__ __len__".split())
# L17
WORDS = re.compile(r"""\b(type|typing|typing_extensions|enum|Enum|IntEnum|StrEnum|Flag|IntFlag|Generic|Protocol|ABC
|ABCMeta|namedtuple|NamedTuple|TypedDict|TYPE_CHECKING|abstractmethod)\b|dataclass|overload|contextmanager""", re.X)
NEVER = set("register mro elements open input version_info with_traceback add_note format format_map args".split())


def bound_names(tree):
    for node in ast.walk(tree):
        if isinstance(node, ast.Name) and isinstance(node.ctx, ast.Store):
            yield node.id
        elif isinstance(node, ast.arg):
            yield node.arg
        elif isinstance(node, ast.ClassDef):
            yield node.name
        elif isinstance(node, ast.FunctionDef) and node.name not in SPECIAL:
            yield node.name


def method_names(tree):
    for node in ast.walk(tree):
        if isinstance(node, ast.ClassDef):
            for part in node.body:
                if isinstance(part, ast.FunctionDef):
                    yield part.name


def value_names(tree):
    for node in ast.walk(tree):
        if isinstance(node, ast.Attribute) and isinstance(node.ctx, ast.Store):
            yield node.attr


class Language(unittest.TestCase):

    @classmethod
    def setUpClass(cls):
        paths = [path for path in sorted(PACKAGE.rglob("*")) if "__pycache__" not in path.parts]
        cls.paths = [path for path in paths if path.is_file()]
        cls.texts = {path: path.read_text(encoding="utf-8") for path in cls.paths}
        cls.trees = {path: ast.parse(text) for path, text in cls.texts.items()}

    def test_files(self):
        self.assertIn(PACKAGE / "__init__.py", self.paths)
        for path in self.paths:
            self.assertRegex(path.name, r"^(__init__|__main__|[a-z][a-z0-9_]*)\.py$")
            self.assertNotIn(path.stem, dir(builtins))

    def test_signs_and_sizes(self):
        for path, text in self.texts.items():
            lines = text.split("\n")
            self.assertLessEqual(len(lines), 401, path)
            for number, line in enumerate(lines, start=1):
                self.assertLessEqual(len(line), 120, (path, number))
                self.assertRegex(line, r"^[ -~]*$", (path, number))
                self.assertIsNone(WORDS.search(line), (path, number))

    def test_functions_are_small_and_plain(self):
        for path, tree in self.trees.items():
            for node in ast.walk(tree):
                if isinstance(node, ast.FunctionDef):
                    self.assertLessEqual(node.end_lineno - node.lineno + 1, 40, (path, node.name))
                    self.assertEqual(node.decorator_list, [], (path, node.name))
                    self.assertIsNone(node.args.vararg or node.args.kwarg, (path, node.name))
                    self.assertEqual(node.args.kwonlyargs, [], (path, node.name))

    def test_nodes(self):
        for path, tree in self.trees.items():
            for node in ast.walk(tree):
                place = (path, getattr(node, "lineno", 0))
                self.assertIn(type(node).__name__, NODES, place)
                if isinstance(node, ast.Constant):
                    self.assertIn(type(node.value), (int, str, bool, type(None)), place)
                if isinstance(node, ast.Assign):
                    self.assertEqual(len(node.targets), 1, place)
                if isinstance(node, (ast.For, ast.While)):
                    self.assertEqual(node.orelse, [], place)

    def test_imports(self):
        for path, tree in self.trees.items():
            for node in ast.walk(tree):
                self.assertNotIsInstance(node, ast.Import, path)
                if isinstance(node, ast.ImportFrom):
                    self.assertEqual(node.level, 0, path)
                    source = PACKAGE.parent / (node.module.replace(".", "/") + ".py")
                    self.assertIn(source, self.paths)
                    defined = list(bound_names(self.trees[source]))
                    self.assertLessEqual({name.name for name in node.names}, set(defined))

    def test_bound_names(self):
        for path, tree in self.trees.items():
            methods = set(method_names(tree))
            for name in bound_names(tree):
                self.assertRegex(name, r"^[A-Za-z][A-Za-z0-9_]*$", path)
                self.assertNotIn(name, NEVER, path)
                if name not in methods:
                    self.assertNotIn(name, dir(builtins), path)

    def test_names_of_pythons_own(self):
        for path, tree in self.trees.items():
            for node in ast.walk(tree):
                if isinstance(node, ast.Name) and node.id in dir(builtins):
                    self.assertIn(node.id, BUILTINS, (path, node.lineno))

    def test_methods_and_values(self):
        methods = {name for tree in self.trees.values() for name in method_names(tree)}
        values = {name for tree in self.trees.values() for name in value_names(tree)}
        self.assertEqual(methods & values, set())
        for path, tree in self.trees.items():
            for node in ast.walk(tree):
                if isinstance(node, ast.Attribute):
                    self.assertIn(node.attr, METHODS | methods | values, (path, node.lineno))
                    self.assertNotIn(node.attr, NEVER, (path, node.lineno))


if __name__ == "__main__":
    unittest.main()
