"""The package's own files keep to the small part of Python they are written in, as far as a walk over them shows."""

import ast
import builtins
import re
import unittest
from pathlib import Path

PACKAGE = Path(__file__).resolve().parent.parent / "beachkept"
FILES = sorted(PACKAGE.glob("*.py"))

NODES = (
    ast.Module, ast.ImportFrom, ast.alias, ast.FunctionDef, ast.ClassDef, ast.arguments, ast.arg, ast.Assign, ast.If,
    ast.While, ast.For, ast.Return, ast.Break, ast.Continue, ast.Pass, ast.Expr, ast.Constant, ast.List, ast.Tuple,
    ast.Dict, ast.BinOp, ast.UnaryOp, ast.BoolOp, ast.Compare, ast.IfExp, ast.Call, ast.Attribute, ast.Subscript,
    ast.Slice, ast.ListComp, ast.comprehension, ast.Name, ast.expr_context, ast.boolop, ast.unaryop, ast.cmpop,
    ast.Add, ast.Sub, ast.Mult, ast.FloorDiv, ast.Mod, ast.BitOr, ast.BitAnd, ast.BitXor, ast.LShift, ast.RShift,
)
OWN_NAMES = ("len", "range", "enumerate", "zip", "min", "max", "sum", "abs", "sorted", "reversed", "list", "tuple", "any")
METHODS = ("append", "extend", "index", "copy", "count", "pop", "clear", "get", "items", "insert")
WALKED = ("zip", "enumerate", "reversed", "range")
WORDS = (
    "type", "typing", "typing_extensions", "enum", "Enum", "IntEnum", "StrEnum", "Flag", "IntFlag", "Generic",
    "Protocol", "ABC", "ABCMeta", "namedtuple", "NamedTuple", "TypedDict", "TYPE_CHECKING", "abstractmethod",
)


def tree_of(path):
    return ast.parse(path.read_text(encoding="ascii"))


def nodes(path, kind):
    return [node for node in ast.walk(tree_of(path)) if isinstance(node, kind)]


def top_names(tree):
    names = []
    for node in tree.body:
        if isinstance(node, (ast.FunctionDef, ast.ClassDef)):
            names.append(node.name)
        elif isinstance(node, ast.Assign):
            names += [target.id for target in node.targets]
        elif isinstance(node, ast.ImportFrom):
            names += [alias.name for alias in node.names]
    return names


def bound_within(tree):
    names = [node.arg for node in ast.walk(tree) if isinstance(node, ast.arg)]
    for node in ast.walk(tree):
        if isinstance(node, ast.FunctionDef):
            names += [n.id for n in ast.walk(node) if isinstance(n, ast.Name) and isinstance(n.ctx, ast.Store)]
    return names


class Language(unittest.TestCase):
    def each_file(self):
        for path in FILES:
            with self.subTest(file=path.name):
                yield path

    def test_files(self):
        self.assertIn(PACKAGE / "__init__.py", FILES)
        lying = [path for path in PACKAGE.iterdir() if path.name != "__pycache__"]
        self.assertEqual(sorted(lying), FILES)
        for path in self.each_file():
            self.assertRegex(path.name, r"^(__init__|[a-z][a-z0-9_]*)\.py$")

    def test_signs_and_sizes(self):
        for path in self.each_file():
            text = path.read_text(encoding="ascii")
            self.assertRegex(text, r"\A[ -~\n]*\Z")
            self.assertLessEqual(max(map(len, text.split("\n"))), 120)
            self.assertLessEqual(len(text.split("\n")), 400)
            for node in nodes(path, ast.FunctionDef):
                self.assertLessEqual(node.end_lineno - node.lineno + 1, 40, node.name)

    def test_words(self):
        for path in self.each_file():
            text = path.read_text(encoding="ascii")
            for word in WORDS:
                self.assertIsNone(re.search(rf"\b{word}\b", text), word)
            self.assertIsNone(re.search("dataclass|overload|contextmanager", text))

    def test_forms(self):
        for path in self.each_file():
            for node in nodes(path, ast.AST):
                self.assertIsInstance(node, NODES, getattr(node, "lineno", None))
            for node in nodes(path, ast.Constant):
                self.assertIn(type(node.value), (int, str, bool, type(None)))
            for node in nodes(path, ast.Assign):
                self.assertEqual(len(node.targets), 1)
                self.assertIsInstance(node.targets[0], (ast.Name, ast.Attribute, ast.Subscript))
            for node in nodes(path, (ast.For, ast.While)):
                self.assertEqual(node.orelse, [])
            for node in nodes(path, ast.ListComp):
                self.assertEqual(len(node.generators), 1)
                self.assertLessEqual(len(node.generators[0].ifs), 1)
            for node in nodes(path, ast.Compare):
                for operator, right in zip(node.ops, node.comparators):
                    if isinstance(operator, (ast.Is, ast.IsNot)):
                        self.assertIsNone(right.value)

    def test_functions_and_classes(self):
        for path in self.each_file():
            for node in nodes(path, ast.FunctionDef):
                given = node.args
                self.assertEqual((given.vararg, given.kwarg, given.kwonlyargs, given.posonlyargs), (None, None, [], []))
                self.assertEqual((node.decorator_list, node.returns), ([], None))
                self.assertTrue(all(parameter.annotation is None for parameter in given.args))
            for node in nodes(path, ast.ClassDef):
                self.assertEqual((node.decorator_list, node.bases, node.keywords), ([], [], []))
                self.assertEqual(node.col_offset, 0)

    def test_names(self):
        for path in self.each_file():
            tree = tree_of(path)
            top = top_names(tree)
            self.assertEqual(len(top), len(set(top)))
            inner = bound_within(tree)
            self.assertEqual(set(inner) & (set(top) | set(dir(builtins))), set())
            for node in nodes(path, ast.Name):
                self.assertRegex(node.id, r"^[A-Za-z][A-Za-z0-9_]*$")
                self.assertIn(node.id, top + inner + list(OWN_NAMES))

    def test_own_methods_and_values_have_free_names(self):
        values, methods = set(), set()
        for path in FILES:
            for node in nodes(path, ast.Attribute):
                if isinstance(node.ctx, ast.Store):
                    values.add(node.attr)
            for node in nodes(path, ast.ClassDef):
                methods |= {part.name for part in node.body if isinstance(part, ast.FunctionDef)}
        taken = {name for kind in (str, int, list, tuple, dict, set, bytes) for name in dir(kind)}
        self.assertEqual((values | methods - {"__init__"}) & taken, set())
        self.assertEqual(values & methods, set())
        for path in self.each_file():
            for node in nodes(path, ast.Attribute):
                self.assertIn(node.attr, values | methods | set(METHODS))

    def test_what_is_walked_is_walked_on_the_spot(self):
        for path in self.each_file():
            walked = [node.iter for node in nodes(path, (ast.For, ast.comprehension))]
            for node in nodes(path, ast.Call):
                walked += node.args
            lines = {(node.lineno, node.col_offset) for node in walked}
            for node in nodes(path, ast.Call):
                if isinstance(node.func, ast.Name) and node.func.id in WALKED:
                    self.assertIn((node.lineno, node.col_offset), lines)

    def test_imports(self):
        drawn = {}
        for path in self.each_file():
            rows = nodes(path, ast.ImportFrom)
            drawn[path.stem] = [row.module.split(".")[1] for row in rows]
            for row in rows:
                self.assertEqual((row.level, row.module.split(".")[0]), (0, "beachkept"))
                source = tree_of(PACKAGE / (row.module.split(".")[1] + ".py"))
                defined = [n.name for n in source.body if isinstance(n, (ast.FunctionDef, ast.ClassDef))]
                defined += [n.targets[0].id for n in source.body if isinstance(n, ast.Assign)]
                for alias in row.names:
                    self.assertIn(alias.name, defined)
                    self.assertIsNone(alias.asname)
        self.assertEqual(drawn["__init__"], [])
        while drawn:
            free = [name for name in drawn if not any(other in drawn for other in drawn[name])]
            self.assertNotEqual(free, [], "files that draw from one another")
            for name in free:
                del drawn[name]


if __name__ == "__main__":
    unittest.main()
