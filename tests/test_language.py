"""The rules for the code of the package that can be seen without running it."""

import ast
import builtins
import io
import pathlib
import re
import tokenize
import unittest

FOLDER = pathlib.Path(__file__).resolve().parent.parent / "treewalks"
BARRED_WORDS = re.compile(
    r"\b(type|typing|typing_extensions|enum|Enum|IntEnum|StrEnum|Flag|IntFlag|Generic|Protocol|ABC|ABCMeta"
    r"|namedtuple|NamedTuple|TypedDict|TYPE_CHECKING|abstractmethod)\b|dataclass|overload|contextmanager"
)
BARRED_NODES = (ast.Global, ast.AsyncFunctionDef, ast.AsyncFor, ast.AsyncWith, ast.Await, ast.Import, ast.Div)
ALLOWED_BUILTINS = (
    "len range enumerate zip min max sum abs sorted reversed int str bool bytes list tuple dict set isinstance ord "
    "repr any all divmod iter next super property staticmethod classmethod Exception ValueError TypeError KeyError "
    "IndexError LookupError ZeroDivisionError ArithmeticError OverflowError RuntimeError NotImplementedError "
    "AttributeError StopIteration NotImplemented object"
).split()


def files():
    return sorted(path for path in FOLDER.rglob("*") if path.is_file() and "__pycache__" not in path.parts)


def parsed(path):
    return ast.parse(path.read_text(encoding="ascii"))


def functions(tree):
    return [node for node in ast.walk(tree) if isinstance(node, ast.FunctionDef)]


def generators():
    """The names of all functions of the package with a yield."""
    found = [node for path in files() for node in functions(parsed(path))]
    lazy = (ast.Yield, ast.YieldFrom)
    return [node.name for node in found if any(isinstance(part, lazy) for part in ast.walk(node))]


def bound_names(tree):
    """All names that the file gives to something, without methods and attributes."""
    found = set()
    methods = [part for node in ast.walk(tree) if isinstance(node, ast.ClassDef) for part in node.body]
    for node in ast.walk(tree):
        if isinstance(node, ast.Name) and isinstance(node.ctx, ast.Store):
            found.add(node.id)
        elif isinstance(node, (ast.FunctionDef, ast.ClassDef)) and node not in methods:
            found.add(node.name)
        elif isinstance(node, ast.arg):
            found.add(node.arg)
        elif isinstance(node, ast.alias):
            found.add(node.asname or node.name)
    return found


class Language(unittest.TestCase):
    def test_only_plain_python_files(self):
        self.assertIn(FOLDER / "__init__.py", files())
        for path in files():
            self.assertRegex(path.name, r"^([a-z][a-z0-9_]*|__init__|__main__)\.py$")

    def test_characters_lines_and_words(self):
        for path in files():
            text = path.read_text(encoding="ascii")
            self.assertRegex(text, r"\A[ -~\n]*\Z", path)
            self.assertLessEqual(len(text.splitlines()), 400, path)
            self.assertLessEqual(max([len(line) for line in text.splitlines()]), 120, path)
            self.assertIsNone(BARRED_WORDS.search(text), path)

    def test_functions_are_short_and_plain(self):
        for path in files():
            for node in functions(parsed(path)):
                self.assertLessEqual(node.end_lineno - node.lineno + 1, 40, node.name)
                self.assertEqual(node.args.posonlyargs, [], node.name)

    def test_statements(self):
        for path in files():
            for node in ast.walk(parsed(path)):
                self.assertNotIsInstance(node, BARRED_NODES, path)
                if isinstance(node, ast.Constant):
                    self.assertNotIsInstance(node.value, (float, complex), path)

    def test_signs(self):
        for path in files():
            for node in ast.walk(parsed(path)):
                if isinstance(node, ast.BinOp) and isinstance(node.op, ast.Pow):
                    self.assertIsInstance(node.right, ast.Constant, path)
                if isinstance(node, ast.Compare):
                    for sign, right in zip(node.ops, node.comparators):
                        if isinstance(sign, (ast.Is, ast.IsNot)):
                            self.assertIsInstance(right, ast.Constant, path)

    def test_what_is_iterated_at_once_is_not_stored(self):
        lazy = {"range", "zip", "enumerate", "reversed", "iter", *generators()}
        for path in files():
            for node in ast.walk(parsed(path)):
                if isinstance(node, (ast.Assign, ast.Return)) and isinstance(node.value, ast.Call):
                    called = node.value.func
                    self.assertFalse(isinstance(called, ast.Name) and called.id in lazy, (path, node.lineno))
                if isinstance(node, (ast.GeneratorExp, ast.SetComp)):
                    self.fail((path, node.lineno))

    def test_imports_stand_on_top_and_name_the_package(self):
        for path in files():
            tree = parsed(path)
            body = [node for node in tree.body if not isinstance(node, ast.Expr)]
            many = len([node for node in ast.walk(tree) if isinstance(node, ast.ImportFrom)])
            for node in body[:many]:
                self.assertIsInstance(node, ast.ImportFrom, path)
                self.assertEqual(node.level, 0, path)
                self.assertTrue(node.module == "__future__" or node.module.startswith("treewalks."), path)

    def test_strings(self):
        for path in files():
            for token in tokenize.generate_tokens(io.StringIO(path.read_text(encoding="ascii")).readline):
                if token.type == tokenize.STRING:
                    self.assertNotIn(chr(37), token.string, path)
                    self.assertNotRegex(token.string, r"""\\[^nt\\'"]""", path)

    def test_names(self):
        for path in files():
            for name in bound_names(parsed(path)):
                self.assertRegex(name, r"^([A-Za-z][A-Za-z0-9_]*|__all__|__version__|__slots__)$", path)
                self.assertFalse(hasattr(builtins, name), (path, name))

    def test_only_listed_builtins(self):
        for path in files():
            tree = parsed(path)
            bound = bound_names(tree)
            for node in ast.walk(tree):
                if isinstance(node, ast.Name) and isinstance(node.ctx, ast.Load) and node.id not in bound:
                    self.assertIn(node.id, ALLOWED_BUILTINS, path)


if __name__ == "__main__":
    unittest.main()
