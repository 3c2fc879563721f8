"""The package keeps to the part of Python that it is written in, as far as a test can see it."""

import ast
import builtins
import pathlib
import re
import unittest

PACKAGE = pathlib.Path(__file__).resolve().parent.parent / "labelpack"

ALLOWED_BUILTINS = set(
    "len range enumerate zip min max sum abs sorted reversed int str bool list tuple dict set frozenset isinstance "
    "ord repr any all divmod Exception ValueError TypeError KeyError IndexError LookupError ZeroDivisionError "
    "ArithmeticError OverflowError RuntimeError NotImplementedError AttributeError StopIteration".split()
)
ALLOWED_METHODS = set(
    "append clear copy count endswith extend find get index insert isalnum isalpha isdigit islower isspace isupper "
    "items join keys ljust lower lstrip partition pop remove replace reverse rfind rjust rpartition rsplit rstrip "
    "setdefault split splitlines startswith strip update upper values zfill bit_length".split()
)
BANNED_WORDS = (
    r"\b(type|typing|typing_extensions|enum|Enum|IntEnum|StrEnum|Flag|IntFlag|Generic|Protocol|ABC|ABCMeta|namedtuple"
    r"|NamedTuple|TypedDict|TYPE_CHECKING|abstractmethod)\b|dataclass|overload|contextmanager"
)
BANNED_NODES = (
    ast.With, ast.Match, ast.Delete, ast.Global, ast.Nonlocal, ast.Assert, ast.Yield, ast.YieldFrom, ast.Await,
    ast.AsyncFunctionDef, ast.Import, ast.SetComp, ast.DictComp, ast.GeneratorExp, ast.NamedExpr, ast.Starred, ast.Div,
)


def package_files():
    return sorted(path for path in PACKAGE.rglob("*") if path.is_file() and "__pycache__" not in path.parts)


def nodes_of(path, *kinds):
    return [node for node in ast.walk(ast.parse(path.read_text())) if isinstance(node, kinds)]


class Language(unittest.TestCase):
    def each_file(self):
        files = package_files()
        self.assertGreater(len(files), 1)
        for path in files:
            with self.subTest(file=path.name):
                yield path

    def test_files(self):
        for path in self.each_file():
            self.assertRegex(path.name, r"^([a-z][a-z0-9_]*|__init__)\.py$")

    def test_signs_and_words(self):
        for path in self.each_file():
            text = path.read_bytes().decode("ascii")
            self.assertRegex(text, r"\A[\n -~]*\Z")
            self.assertIsNone(re.search(BANNED_WORDS, text))

    def test_sizes(self):
        for path in self.each_file():
            lines = path.read_text().splitlines()
            self.assertLessEqual(len(lines), 400)
            self.assertLessEqual(max(map(len, lines)), 120)
            for node in nodes_of(path, ast.FunctionDef):
                self.assertLessEqual(node.end_lineno - node.lineno + 1, 40, node.name)

    def test_imports(self):
        for path in self.each_file():
            for node in nodes_of(path, ast.ImportFrom):
                self.assertEqual(node.level, 0)
                self.assertRegex(node.module, r"^labelpack\.[a-z_]+$")

    def test_statements_and_expressions(self):
        for path in self.each_file():
            self.assertEqual(nodes_of(path, *BANNED_NODES), [])
            for node in nodes_of(path, ast.Assign):
                self.assertEqual(len(node.targets), 1)
            for node in nodes_of(path, ast.For, ast.While, ast.Try):
                self.assertEqual(getattr(node, "finalbody", []), [])
                self.assertTrue(isinstance(node, ast.Try) or node.orelse == [])
            for node in nodes_of(path, ast.FunctionDef, ast.ClassDef):
                self.assertEqual(node.decorator_list, [])
            for node in nodes_of(path, ast.Constant):
                self.assertNotIsInstance(node.value, (float, bytes, complex))

    def test_names(self):
        for path in self.each_file():
            for node in nodes_of(path, ast.Name, ast.arg):
                name = node.id if isinstance(node, ast.Name) else node.arg
                self.assertFalse(name.startswith("_"), name)
                if hasattr(builtins, name):
                    self.assertIn(name, ALLOWED_BUILTINS)
                    self.assertTrue(isinstance(node, ast.Name) and isinstance(node.ctx, ast.Load), name)

    def test_methods(self):
        own = set()
        for path in package_files():
            own |= {node.name for node in nodes_of(path, ast.FunctionDef)}
        for path in self.each_file():
            for node in nodes_of(path, ast.Call):
                if isinstance(node.func, ast.Attribute):
                    self.assertIn(node.func.attr, own | ALLOWED_METHODS)


if __name__ == "__main__":
    unittest.main()
