"""The package keeps to the small part of Python that LANGUAGE.md tells; checked as far as the code's form shows it."""

import ast
import pathlib
import re
import unittest

PACKAGE = pathlib.Path(__file__).resolve().parent.parent / "placerows"
OWN_NAMES = set(
    "len range enumerate zip min max sum abs sorted reversed int str bool list tuple dict set frozenset isinstance "
    "ord repr any all divmod Exception ValueError TypeError KeyError IndexError LookupError ZeroDivisionError "
    "ArithmeticError OverflowError RuntimeError NotImplementedError AttributeError StopIteration".split())
OWN_METHODS = set(
    "append clear copy count endswith extend find get index insert isalnum isalpha isdigit islower isspace isupper "
    "items join keys ljust lower lstrip partition pop remove replace reverse rfind rjust rpartition rsplit rstrip "
    "setdefault split splitlines startswith strip update upper values zfill bit_length".split())
BARRED_WORDS = re.compile(
    r"\b(type|typing|typing_extensions|enum|Enum|IntEnum|StrEnum|Flag|IntFlag|Generic|Protocol|ABC|ABCMeta|namedtuple"
    r"|NamedTuple|TypedDict|TYPE_CHECKING|abstractmethod)\b|dataclass|overload|contextmanager")
ALLOWED_NODES = (
    ast.Module, ast.ImportFrom, ast.alias, ast.FunctionDef, ast.arguments, ast.arg, ast.ClassDef, ast.Assign,
    ast.AugAssign, ast.If, ast.While, ast.For, ast.Return, ast.Break, ast.Continue, ast.Pass, ast.Raise, ast.Try,
    ast.ExceptHandler, ast.Expr, ast.Call, ast.keyword, ast.Attribute, ast.Subscript, ast.Slice, ast.Name,
    ast.Constant, ast.List, ast.Tuple, ast.Dict, ast.BinOp, ast.UnaryOp, ast.BoolOp, ast.Compare, ast.IfExp,
    ast.ListComp, ast.comprehension, ast.Lambda, ast.JoinedStr, ast.FormattedValue, ast.operator, ast.unaryop,
    ast.boolop, ast.cmpop, ast.expr_context)


def package_files():
    return sorted(path for path in PACKAGE.rglob("*") if path.is_file() and "__pycache__" not in path.parts)


def bound_names(tree):
    """Every name that the file gives to something."""
    for node in ast.walk(tree):
        if isinstance(node, (ast.FunctionDef, ast.ClassDef)):
            yield node.name
        elif isinstance(node, ast.arg):
            yield node.arg
        elif isinstance(node, ast.alias):
            yield node.name
        elif isinstance(node, ast.Name) and isinstance(node.ctx, ast.Store):
            yield node.id


class LanguageTest(unittest.TestCase):
    def trees(self):
        for path in package_files():
            yield path.name, ast.parse(path.read_text(encoding="ascii"))

    def nodes(self, *kinds):
        for name, tree in self.trees():
            for node in ast.walk(tree):
                if isinstance(node, kinds):
                    yield f"{name}:{getattr(node, 'lineno', 0)}", node

    def test_files(self):
        names = [path.name for path in package_files()]
        self.assertIn("__init__.py", names)
        for name in names:
            self.assertRegex(name, r"^(__init__|[a-z][a-z0-9_]*)\.py$")

    def test_size_and_signs(self):
        for path in package_files():
            lines = path.read_text(encoding="ascii").split("\n")
            self.assertLessEqual(len(lines), 401, path)
            for at, line in enumerate(lines, start=1):
                self.assertLessEqual(len(line), 120, (path, at))
                self.assertRegex(line, r"^[ -~]*$", (path, at))
                self.assertNotRegex(line, BARRED_WORDS, (path, at))
        for where, node in self.nodes(ast.FunctionDef):
            self.assertLessEqual(node.end_lineno - node.lineno + 1, 40, where)

    def test_statements_and_expressions(self):
        for where, node in self.nodes(ast.AST):
            self.assertIsInstance(node, ALLOWED_NODES, where)
            self.assertNotIsInstance(node, (ast.Div, ast.MatMult, ast.Starred), where)
        for where, node in self.nodes(ast.For, ast.While, ast.Assign, ast.ListComp, ast.FunctionDef, ast.ClassDef):
            self.assertFalse(isinstance(node, (ast.For, ast.While)) and node.orelse, where)
            self.assertFalse(isinstance(node, ast.Assign) and len(node.targets) > 1, where)
            self.assertFalse(isinstance(node, ast.ListComp) and len(node.generators) > 1, where)
            self.assertFalse(getattr(node, "decorator_list", None), where)
        for where, node in self.nodes(ast.Constant):
            self.assertTrue(node.value is None or isinstance(node.value, (int, str)), where)
            self.assertFalse(isinstance(node.value, str) and "%" in node.value, where)

    def test_imports(self):
        modules = {f"placerows.{path.stem}" for path in package_files()}
        for where, node in self.nodes(ast.ImportFrom):
            self.assertIn(node.module, modules, where)
            self.assertEqual(node.level, 0, where)
            self.assertTrue(all(alias.asname is None and alias.name != "*" for alias in node.names), where)

    def test_names(self):
        for name, tree in self.trees():
            bound = list(bound_names(tree))
            for word in bound:
                self.assertRegex(word, r"^([A-Za-z][A-Za-z0-9_]*|__init__)$", name)
                self.assertNotIn(word, dir(__builtins__) if not isinstance(__builtins__, dict) else __builtins__)
            for node in ast.walk(tree):
                if isinstance(node, ast.Name):
                    self.assertIn(node.id, set(bound) | OWN_NAMES, (name, node.lineno))

    def test_methods(self):
        own = {node.name for _, node in self.nodes(ast.FunctionDef)}
        for where, node in self.nodes(ast.Call):
            if isinstance(node.func, ast.Attribute):
                self.assertIn(node.func.attr, own | OWN_METHODS, where)

    def test_the_top_of_each_file(self):
        for name, tree in self.trees():
            self.assertIsNotNone(ast.get_docstring(tree), name)
            for node in tree.body[1:]:
                self.assertIsInstance(node, (ast.ImportFrom, ast.FunctionDef, ast.ClassDef, ast.Assign), name)
                if isinstance(node, ast.Assign):
                    values = node.value.elts if isinstance(node.value, ast.Tuple) else [node.value]
                    for value in values:
                        self.assertIsInstance(value, (ast.Constant, ast.Name, ast.UnaryOp), (name, node.lineno))
