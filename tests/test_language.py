"""The rules of form that can be seen in the package's files."""

import ast
import re
import unittest
from pathlib import Path

TOP = Path(__file__).resolve().parent.parent
PACKAGE = TOP / "beetcampaign"
FILES = sorted(PACKAGE.glob("*.py"))

STATEMENTS = (ast.Assign, ast.AugAssign, ast.If, ast.While, ast.For, ast.Return, ast.Break, ast.Continue, ast.Pass,
              ast.Raise, ast.Try, ast.Expr, ast.FunctionDef, ast.ClassDef, ast.ImportFrom)
BARRED = (ast.Set, ast.SetComp, ast.DictComp, ast.GeneratorExp, ast.NamedExpr, ast.Starred, ast.Div, ast.Await,
          ast.Yield, ast.YieldFrom)
OWN_NAMES = ("len", "range", "enumerate", "zip", "min", "max", "sum", "abs", "sorted", "reversed", "int", "str",
             "bool", "list", "tuple", "dict", "set", "frozenset", "isinstance", "ord", "repr", "any", "all", "divmod",
             "KeyError", "ValueError", "ZeroDivisionError", "IndexError", "Exception")
METHODS = ("append", "clear", "copy", "count", "extend", "get", "index", "insert", "items", "join", "keys", "pop",
           "remove", "replace", "reverse", "setdefault", "split", "update", "values")
WORDS = ("type", "typing", "typing_extensions", "enum", "Enum", "IntEnum", "StrEnum", "Flag", "IntFlag", "Generic",
         "Protocol", "ABC", "ABCMeta", "namedtuple", "NamedTuple", "TypedDict", "TYPE_CHECKING", "abstractmethod")
PYTHON = tuple(vars(__import__("builtins")))
NAMES_OF_VALUES = tuple(name for kind in (str, int, list, dict, set, bytes, tuple) for name in dir(kind)
                        if not name.startswith("__"))


def nodes(kind):
    """All nodes of a kind in the package, with where they stand."""
    for path in FILES:
        for node in ast.walk(ast.parse(path.read_text())):
            if isinstance(node, kind):
                yield node, f"{path.name}:{getattr(node, 'lineno', 0)}"


def bound_names(path):
    """All names that a file binds: top names, parameters and locals."""
    for node in ast.walk(ast.parse(path.read_text())):
        if isinstance(node, ast.arg):
            yield node.arg
        if isinstance(node, ast.Name) and isinstance(node.ctx, ast.Store):
            yield node.id
        if isinstance(node, (ast.FunctionDef, ast.ClassDef)):
            yield node.name


class FilesTest(unittest.TestCase):
    def test_nothing_else_lies_in_the_package(self):
        others = [path.name for path in PACKAGE.iterdir() if path.name != "__pycache__" and path not in FILES]
        self.assertEqual(others, [])
        self.assertIn(PACKAGE / "__init__.py", FILES)
        for path in FILES:
            self.assertRegex(path.name, r"^[a-z_0-9]+\.py$")
            self.assertNotIn(path.stem, PYTHON)

    def test_signs_and_size(self):
        for path in FILES:
            text = path.read_text()
            self.assertRegex(text, r"\A[ -~\n]*\Z", path.name)
            rows = text.splitlines()
            self.assertLessEqual(len(rows), 400, path.name)
            self.assertLessEqual(max(len(row) for row in rows), 120, path.name)
            for word in re.findall(r"\w+", text):
                self.assertNotIn(word, WORDS, path.name)
                for part in ("dataclass", "overload", "contextmanager"):
                    self.assertNotIn(part, word, path.name)

    def test_functions_are_small(self):
        for node, where in nodes(ast.FunctionDef):
            self.assertLessEqual(node.end_lineno - node.lineno + 1, 40, where)
            self.assertEqual(node.decorator_list, [], where)
            self.assertIsNone(node.args.vararg, where)
            self.assertIsNone(node.args.kwarg, where)
            self.assertEqual(node.args.kwonlyargs, [], where)

    def test_imports_are_the_package_s_own_and_no_ring(self):
        drawn = {path.stem: set() for path in FILES}
        for path in FILES:
            for node in ast.parse(path.read_text()).body:
                if isinstance(node, ast.ImportFrom):
                    package, name = node.module.split(".")
                    self.assertEqual(package, "beetcampaign")
                    drawn[path.stem].add(name)
        self.assertEqual(drawn["__init__"], set())
        while drawn:
            free = [name for name in drawn if not drawn[name] & set(drawn)]
            self.assertTrue(free, drawn)
            drawn = {name: drawn[name] for name in drawn if name not in free}


class WordsTest(unittest.TestCase):
    def test_statements(self):
        for node, where in nodes(ast.stmt):
            self.assertIsInstance(node, STATEMENTS, where)
            if isinstance(node, (ast.For, ast.While)):
                self.assertEqual(node.orelse, [], where)
            if isinstance(node, ast.Assign):
                self.assertEqual(len(node.targets), 1, where)

    def test_expressions(self):
        for node, where in nodes(ast.AST):
            self.assertNotIsInstance(node, BARRED, where)
        for node, where in nodes(ast.Constant):
            self.assertIsInstance(node.value, (int, str, type(None)), where)
            self.assertNotIn("%", str(node.value), where)
        for node, where in nodes(ast.ListComp):
            self.assertEqual(len(node.generators), 1, where)
            self.assertLessEqual(len(node.generators[0].ifs), 1, where)
        for node, where in nodes(ast.BinOp):
            if isinstance(node.op, ast.Pow):
                self.assertIsInstance(node.right, ast.Constant, where)
        for node, where in nodes(ast.Compare):
            for op, right in zip(node.ops, node.comparators):
                if isinstance(op, (ast.Is, ast.IsNot)):
                    self.assertIsInstance(right, ast.Constant, where)

    def test_names(self):
        for path in FILES:
            for name in bound_names(path):
                self.assertTrue(name == "__init__" or not name.startswith("_"), (path.name, name))
                self.assertNotIn(name, PYTHON, path.name)
        for node, where in nodes(ast.Name):
            if node.id in PYTHON:
                self.assertIn(node.id, OWN_NAMES, where)

    def test_no_local_is_called_like_an_import_or_a_class_or_a_function(self):
        for path in FILES:
            tree = ast.parse(path.read_text())
            top = {alias.name for node in tree.body if isinstance(node, ast.ImportFrom) for alias in node.names}
            top |= {node.name for node in tree.body if isinstance(node, (ast.FunctionDef, ast.ClassDef))}
            for function in [node for node in ast.walk(tree) if isinstance(node, ast.FunctionDef)]:
                for node in ast.walk(function):
                    if isinstance(node, ast.arg):
                        self.assertNotIn(node.arg, top, path.name)
                    if isinstance(node, ast.Name) and isinstance(node.ctx, ast.Store):
                        self.assertNotIn(node.id, top, path.name)

    def test_methods_and_values(self):
        methods = {node.name for cls, where in nodes(ast.ClassDef) for node in cls.body
                   if isinstance(node, ast.FunctionDef)}
        values = {node.attr for node, where in nodes(ast.Attribute) if isinstance(node.ctx, ast.Store)}
        self.assertEqual(methods & values, set())
        self.assertEqual((methods | values) & set(NAMES_OF_VALUES), set())
        for node, where in nodes(ast.Call):
            if isinstance(node.func, ast.Attribute):
                self.assertIn(node.func.attr, tuple(methods) + METHODS, where)


if __name__ == "__main__":
    unittest.main()
