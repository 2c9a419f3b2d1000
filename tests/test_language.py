"""The package keeps to the small part of Python it is written in: what can be seen without much ado."""

import ast
import builtins
import pathlib
import re
import unittest

PACKAGE = pathlib.Path(__file__).resolve().parent.parent / "carriedover"

NODES = (
    "Module ImportFrom alias FunctionDef ClassDef arguments arg Assign If While For Return Break Continue Pass Expr "
    "Raise Try ExceptHandler Constant Name Load Store Attribute Subscript Slice Call keyword List Tuple Dict "
    "BinOp UnaryOp BoolOp Compare IfExp ListComp comprehension Lambda JoinedStr FormattedValue AugAssign "
    "Add Sub Mult FloorDiv Mod Pow LShift RShift BitOr BitAnd BitXor Invert USub Not And Or "
    "Eq NotEq Lt LtE Gt GtE In NotIn Is IsNot"
).split()

BUILTINS = (
    "len range enumerate zip min max sum abs sorted reversed int str bool list tuple dict set frozenset isinstance "
    "ord repr any all divmod"
).split()

METHODS = (
    "append clear copy count endswith extend find get index insert isalnum isalpha isdigit islower isspace isupper "
    "items join keys ljust lower lstrip partition pop remove replace reverse rfind rjust rpartition rsplit rstrip "
    "setdefault split splitlines startswith strip update upper values zfill bit_length"
).split()

WORDS_LEFT_OUT = re.compile(
    r"\b(type|typing|typing_extensions|enum|Enum|IntEnum|StrEnum|Flag|IntFlag|Generic|Protocol|ABC|ABCMeta|namedtuple"
    r"|NamedTuple|TypedDict|TYPE_CHECKING|abstractmethod)\b|dataclass|overload|contextmanager")


def sources():
    return {path: path.read_bytes().decode("ascii") for path in sorted(PACKAGE.rglob("*.py"))}


def own_names(tree):
    """All that a file defines, imports, or has as a parameter or a local."""
    found = set()
    for node in ast.walk(tree):
        if isinstance(node, (ast.FunctionDef, ast.ClassDef)):
            found.add(node.name)
        elif isinstance(node, ast.arg):
            found.add(node.arg)
        elif isinstance(node, ast.alias):
            found.add(node.name)
        elif isinstance(node, ast.Name) and isinstance(node.ctx, ast.Store):
            found.add(node.id)
    return found


class Language(unittest.TestCase):

    def test_files(self):
        self.assertIn(PACKAGE / "__init__.py", sources())
        for path in PACKAGE.rglob("*"):
            if "__pycache__" not in path.parts:
                self.assertRegex(path.name, r"^(__init__|[a-z][a-z0-9_]*)\.py$")

    def test_signs_sizes_and_words(self):
        for path, text in sources().items():
            self.assertNotRegex(text, r"[^ -~\n]", path)
            self.assertLessEqual(text.count("\n"), 399, path)
            self.assertLessEqual(max(len(row) for row in text.split("\n")), 120, path)
            self.assertIsNone(WORDS_LEFT_OUT.search(text), path)

    def test_expressions_and_statements(self):
        for path, text in sources().items():
            for node in ast.walk(ast.parse(text)):
                self.assertIn(type(node).__name__, NODES, (path, getattr(node, "lineno", 0)))
                if isinstance(node, ast.FunctionDef):
                    self.assertLessEqual(node.end_lineno - node.lineno + 1, 40, (path, node.name))
                    self.assertEqual(node.decorator_list, [], (path, node.name))
                if isinstance(node, ast.ImportFrom):
                    self.assertRegex(node.module, r"^carriedover\.[a-z]", path)
                    self.assertEqual(node.level, 0, path)

    def test_names(self):
        for path, text in sources().items():
            tree = ast.parse(text)
            own = own_names(tree)
            methods = {node.name for node in ast.walk(tree) if isinstance(node, ast.FunctionDef)}
            for name in own - {"__init__"}:
                self.assertRegex(name, r"^[A-Za-z][A-Za-z0-9_]*$", path)
                self.assertNotIn(name, dir(builtins), path)
            for node in ast.walk(tree):
                if isinstance(node, ast.Name) and isinstance(node.ctx, ast.Load):
                    self.assertTrue(node.id in own or node.id in BUILTINS, (path, node.id))
                if isinstance(node, ast.Call) and isinstance(node.func, ast.Attribute):
                    self.assertTrue(node.func.attr in methods or node.func.attr in METHODS, (path, node.func.attr))


if __name__ == "__main__":
    unittest.main()
