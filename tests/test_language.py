"""The rules for the code of the package that can be seen without running it."""

import ast
import builtins
import io
import pathlib
import re
import tokenize
import unittest

FOLDER = pathlib.Path(__file__).resolve().parent.parent / "treewalks"
BARRED_WORDS = re.compile(
    r"\b(type|typing|typing_extensions|enum|Enum|IntEnum|StrEnum|Flag|IntFlag|Generic|Protocol|ABC|ABCMeta"
    r"|namedtuple|NamedTuple|TypedDict|TYPE_CHECKING|abstractmethod)\b|dataclass|overload|contextmanager"
)
BARRED_NODES = (ast.Global, ast.AsyncFunctionDef, ast.AsyncFor, ast.AsyncWith, ast.Await, ast.Import, ast.Div)
ALLOWED_BUILTINS = (
    "len range enumerate zip min max sum abs sorted reversed int str bool bytes list tuple dict set isinstance ord "
    "repr any all divmod iter next super property staticmethod classmethod Exception ValueError TypeError KeyError "
    "IndexError LookupError ZeroDivisionError ArithmeticError OverflowError RuntimeError NotImplementedError "
    "AttributeError StopIteration NotImplemented object"
).split()


def files():
    return sorted(path for path in FOLDER.rglob("*") if path.is_file() and "__pycache__" not in path.parts)


def parsed(path):
    return ast.parse(path.read_text(encoding="ascii"))


def functions(tree):
    return [node for node in ast.walk(tree) if isinstance(node, ast.FunctionDef)]


def generators():
    """The names of all functions of the package with a yield."""
    found = [node for path in files() for node in functions(parsed(path))]
    lazy = (ast.Yield, ast.YieldFrom)
    return [node.name for node in found if any(isinstance(part, lazy) for part in ast.walk(node))]


def bound_names(tree):
    """All names that the file gives to something, without methods and attributes."""
    found = set()
    methods = [part for node in ast.walk(tree) if isinstance(node, ast.ClassDef) for part in node.body]
    for node in ast.walk(tree):
        if isinstance(node, ast.Name) and isinstance(node.ctx, ast.Store):
            found.add(node.id)
        elif isinstance(node, (ast.FunctionDef, ast.ClassDef)) and node not in methods:
            found.add(node.name)
        elif isinstance(node, ast.arg):
            found.add(node.arg)
        elif isinstance(node, ast.alias):
            found.add(node.asname or node.name)
    return found


class Language(unittest.TestCase):
    def test_only_plain_python_files(self):
        self.assertIn(FOLDER / "__init__.py", files())
        for path in files():
            self.assertRegex(path.name, r"^([a-z][a-z0-9_]*|__init__|__main__)\.py$")

    def test_characters_lines_and_words(self):
        for path in files():
            text = path.read_text(encoding="ascii")
            self.assertRegex(text, r"\A[ -~\n]*\Z", path)
            self.assertLessEqual(len(text.splitlines()), 400, path)
            self.assertLessEqual(max([len(line) for line in text.splitlines()]), 120, path)
            self.assertIsNone(BARRED_WORDS.search(text), path)

    def test_functions_are_short_and_plain(self):
        for path in files():
            for node in functions(parsed(path)):
                self.assertLessEqual(node.end_lineno - node.lineno + 1, 40, node.name)
                self.assertEqual(node.args.posonlyargs, [], node.name)

    def test_statements(self):
        for path in files():
            for node in ast.walk(parsed(path)):
                self.assertNotIsInstance(node, BARRED_NODES, path)
                if isinstance(node, ast.Constant):
                    self.assertNotIsInstance(node.value, (float, complex), path)

    def test_signs(self):
        for path in files():
            for node in ast.walk(parsed(path)):
                if isinstance(node, ast.BinOp) and isinstance(node.op, ast.Pow):
                    self.assertIsInstance(node.right, ast.Constant, path)
                if isinstance(node, ast.Compare):
                    for sign, right in zip(node.ops, node.comparators):
                        if isinstance(sign, (ast.Is, ast.IsNot)):
                            self.assertIsInstance(right, ast.Constant, path)

    def test_what_is_iterated_at_once_is_not_stored(self):
        lazy = {"range", "zip", "enumerate", "reversed", "iter", *generators()}
        for path in files():
            for node in ast.walk(parsed(path)):
                if isinstance(node, (ast.Assign, ast.Return)) and isinstance(node.value, ast.Call):
                    called = node.value.func
                    self.assertFalse(isinstance(called, ast.Name) and called.id in lazy, (path, node.lineno))
                if isinstance(node, (ast.GeneratorExp, ast.SetComp)):
                    self.fail((path, node.lineno))

    def test_imports_stand_on_top_and_name_the_package(self):
        for path in files():
            tree = parsed(path)
            body = [node for node in tree.body if not isinstance(node, ast.Expr)]
            many = len([node for node in ast.walk(tree) if isinstance(node, ast.ImportFrom)])
            for node in body[:many]:
                self.assertIsInstance(node, ast.ImportFrom, path)
                self.assertEqual(node.level, 0, path)
                self.assertTrue(node.module == "__future__" or node.module.startswith("treewalks."), path)

    def test_strings(self):
        for path in files():
            for token in tokenize.generate_tokens(io.StringIO(path.read_text(encoding="ascii")).readline):
                if token.type == tokenize.STRING:
                    self.assertNotIn(chr(37), token.string, path)
                    self.assertNotRegex(token.string, r"""\\[^nt\\'"]""", path)

    def test_names(self):
        for path in files():
            for name in bound_names(parsed(path)):
                self.assertRegex(name, r"^([A-Za-z][A-Za-z0-9_]*|__all__|__version__|__slots__)$", path)
                self.assertFalse(hasattr(builtins, name), (path, name))

    def test_only_listed_builtins(self):
        for path in files():
            tree = parsed(path)
            bound = bound_names(tree)
            for node in ast.walk(tree):
                if isinstance(node, ast.Name) and isinstance(node.ctx, ast.Load) and node.id not in bound:
                    self.assertIn(node.id, ALLOWED_BUILTINS, path)


OPERATORS = (
    "__eq__ __len__ __str__ __repr__ __lt__ __le__ __gt__ __ge__ __ne__ __add__ __sub__ __mul__ __neg__ __pos__ "
    "__bool__ __contains__ __getitem__"
).split()
MODIFYING = "append clear extend insert pop remove reverse setdefault update sort add discard".split()
PYTHONS_OWN_ERRORS = ("ValueError", "LookupError", "IndexError", "Exception", "TypeError", "BaseException")


def classes():
    return [node for path in files() for node in parsed(path).body if isinstance(node, ast.ClassDef)]


def methods(made):
    return [node for node in made.body if isinstance(node, ast.FunctionDef)]


def decorators(node):
    return [part.id for part in node.decorator_list if isinstance(part, ast.Name)]


def stored_attributes(node):
    return [part.attr for part in ast.walk(node) if isinstance(part, ast.Attribute) and isinstance(part.ctx, ast.Store)]


def called_names(node):
    """The names of all functions and methods that are called in the node."""
    called = [part.func for part in ast.walk(node) if isinstance(part, ast.Call)]
    return [part.id if isinstance(part, ast.Name) else getattr(part, "attr", "") for part in called]


def all_functions():
    """All functions and methods of the package by name, without the ones that make objects."""
    found = {}
    for path in files():
        for node in functions(parsed(path)):
            if node.name != "__init__":
                found.setdefault(node.name, []).append(node)
    return found


class Classes(unittest.TestCase):
    def test_only_listed_double_underscore_methods(self):
        for made in classes():
            for node in methods(made):
                if node.name.startswith("__"):
                    self.assertIn(node.name, [*OPERATORS, "__init__", "__call__", "__iter__"], made.name)

    def test_no_name_is_a_method_and_an_attribute(self):
        named = {node.name for made in classes() for node in methods(made)}
        stored = {name for made in classes() for name in stored_attributes(made)}
        values = {part.targets[0].id for made in classes() for part in made.body if isinstance(part, ast.Assign)}
        self.assertEqual([named & stored, named & values, stored & values], [set(), set(), set()])
        builtin = {name for value in ("", 0, [], (), {}, set(), b"") for name in dir(value) if name[0] != "_"}
        self.assertEqual((named | values) & builtin, set())
        self.assertEqual(stored & builtin, {"index"})

    def test_each_kind_of_method_has_names_of_its_own(self):
        kinds = {}
        for made in classes():
            for node in methods(made):
                kinds.setdefault(node.name, set()).add(tuple(decorators(node)))
        self.assertEqual([name for name in kinds if len(kinds[name]) > 1], [])

    def test_class_values_are_written_out(self):
        for made in classes():
            for part in made.body:
                if isinstance(part, ast.Assign):
                    self.assertIsInstance(ast.literal_eval(part.value), (int, str, tuple), made.name)

    def test_a_class_with_items_is_not_iterated(self):
        for made in classes():
            named = [node.name for node in methods(made)]
            self.assertEqual("__getitem__" in named, "__iter__" in named, made.name)

    def test_signs_and_properties_change_nothing(self):
        known = all_functions()
        starts = [node for made in classes() for node in methods(made)]
        waiting = [node for node in starts if node.name in OPERATORS or "property" in decorators(node)]
        self.assertGreater(len(waiting), 10)
        seen = []
        while waiting:
            node = waiting.pop()
            if node not in seen:
                seen.append(node)
                waiting += [other for name in called_names(node) for other in known.get(name, [])]
        for node in seen:
            self.assertEqual(stored_attributes(node), [], node.name)
            self.assertEqual([name for name in called_names(node) if name in MODIFYING], [], node.name)
            for part in ast.walk(node):
                self.assertNotIsInstance(part, (ast.AugAssign, ast.Delete, ast.Yield, ast.YieldFrom), node.name)
                self.assertFalse(isinstance(part, ast.Subscript) and isinstance(part.ctx, ast.Store), node.name)


class BesideSigns(unittest.TestCase):
    """Rules that hold everywhere once a class of the package compares or has signs."""

    def test_sorted_and_reversed(self):
        for path in files():
            for node in ast.walk(parsed(path)):
                if isinstance(node, ast.Call) and isinstance(node.func, ast.Attribute):
                    self.assertNotEqual(node.func.attr, "sort", path)
                if isinstance(node, ast.Call) and isinstance(node.func, ast.Name) and node.func.id == "reversed":
                    self.assertIsInstance(node.args[0], ast.Call, path)
                self.assertNotIsInstance(node, ast.Match, path)

    def test_only_own_errors_are_caught(self):
        for path in files():
            for node in ast.walk(parsed(path)):
                if isinstance(node, ast.ExceptHandler):
                    caught = node.type.elts if isinstance(node.type, ast.Tuple) else [node.type]
                    for name in caught:
                        self.assertNotIn(name.id, PYTHONS_OWN_ERRORS, path)

    def test_finally_only_assigns(self):
        many = 0
        for path in files():
            for node in ast.walk(parsed(path)):
                for row in node.finalbody if isinstance(node, ast.Try) else []:
                    many += 1
                    self.assertIsInstance(row, ast.Assign, path)
                    for part in ast.walk(row):
                        plain = (ast.Assign, ast.Name, ast.Attribute, ast.Tuple, ast.Constant, ast.expr_context)
                        self.assertIsInstance(part, plain, path)
        self.assertGreater(many, 0)


if __name__ == "__main__":
    unittest.main()
