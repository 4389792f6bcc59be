"""The package's files keep to the small part of Python that they may use.

Not every rule of the language can be seen here; those that are easily broken
by an edit can.
"""

import ast
import builtins
import pathlib
import re
import unittest

PACKAGE = pathlib.Path(__file__).resolve().parent.parent / "sheettexts"

STATEMENTS = (
    ast.Assign, ast.If, ast.While, ast.For, ast.Return, ast.Break, ast.Continue, ast.Pass, ast.Raise,
    ast.Try, ast.ExceptHandler, ast.Expr, ast.FunctionDef, ast.ClassDef, ast.ImportFrom, ast.AugAssign,
)
EXPRESSIONS = (
    ast.BinOp, ast.UnaryOp, ast.BoolOp, ast.Compare, ast.IfExp, ast.Call, ast.Attribute, ast.Subscript,
    ast.Slice, ast.ListComp, ast.Constant, ast.List, ast.Tuple, ast.Dict, ast.Name,
)
SMALL = (
    ast.Module, ast.arguments, ast.arg, ast.keyword, ast.alias, ast.comprehension, ast.operator,
    ast.unaryop, ast.boolop, ast.cmpop, ast.expr_context,
)
PYTHONS_OWN = (
    "len", "range", "enumerate", "zip", "min", "max", "sum", "abs", "sorted", "reversed", "int", "str",
    "bool", "list", "tuple", "dict", "isinstance", "ord", "repr", "any", "all", "divmod", "Exception",
)
METHODS = (
    "append", "clear", "copy", "count", "extend", "find", "get", "index", "insert", "items", "join",
    "keys", "pop", "remove", "replace", "reverse", "setdefault", "update", "values",
)
WORDS_OUT = re.compile(
    r"\b(type|typing|typing_extensions|enum|Enum|IntEnum|StrEnum|Flag|IntFlag|Generic|Protocol|ABC|ABCMeta"
    r"|namedtuple|NamedTuple|TypedDict|TYPE_CHECKING|abstractmethod)\b|dataclass|overload|contextmanager"
)
PYTHONS_VALUES = (str, int, list, tuple, dict, set, frozenset, bytes)
PLAIN_NAME = re.compile(r"[A-Za-z][A-Za-z0-9_]*")


def files():
    return sorted(PACKAGE.glob("*.py"))


def nodes(path):
    return list(ast.walk(ast.parse(path.read_text())))


def bound_names(tree):
    names = [node.name for node in tree if isinstance(node, (ast.FunctionDef, ast.ClassDef))]
    names += [node.id for node in tree if isinstance(node, ast.Name) and isinstance(node.ctx, ast.Store)]
    names += [node.arg for node in tree if isinstance(node, ast.arg)]
    return names + [node.name for node in tree if isinstance(node, ast.alias)]


def own_attributes():
    names = []
    for path in files():
        for node in nodes(path):
            if isinstance(node, ast.Attribute) and isinstance(node.ctx, ast.Store):
                names.append(node.attr)
    return names


class Language(unittest.TestCase):
    def test_nothing_else_lies_in_the_package(self):
        lying = sorted(path for path in PACKAGE.iterdir() if path.name != "__pycache__")
        self.assertEqual(lying, files())
        self.assertIn(PACKAGE / "__init__.py", lying)

    def test_sizes_and_signs(self):
        for path in files():
            text = path.read_text()
            self.assertIsNone(re.search(r"[^ -~\n]", text), path)
            self.assertIsNone(WORDS_OUT.search(text), path)
            self.assertLessEqual(len(text.splitlines()), 400, path)
            self.assertLessEqual(max(len(line) for line in text.splitlines()), 120, path)
            for node in nodes(path):
                if isinstance(node, ast.FunctionDef):
                    self.assertLessEqual(node.end_lineno - node.lineno + 1, 40, node.name)

    def test_forms(self):
        for path in files():
            for node in nodes(path):
                self.assertIsInstance(node, STATEMENTS + EXPRESSIONS + SMALL, ast.dump(node))
                if isinstance(node, (ast.While, ast.For)):
                    self.assertEqual(node.orelse, [])
                if isinstance(node, ast.Assign):
                    self.assertEqual(len(node.targets), 1)
                if isinstance(node, ast.Constant) and node.value is not None:
                    self.assertIn(type(node.value), (int, str, bool))
                self.assertNotIsInstance(node, ast.Div)

    def test_imports(self):
        for path in files():
            for node in nodes(path):
                if isinstance(node, ast.ImportFrom):
                    self.assertEqual(node.level, 0)
                    self.assertTrue(node.module.startswith("sheettexts."), node.module)
                    self.assertTrue((PACKAGE / (node.module.split(".", 1)[1] + ".py")).exists())

    def test_names(self):
        for path in files():
            tree = nodes(path)
            bound = bound_names(tree)
            for name in [name for name in bound if name != "__init__"]:
                self.assertTrue(PLAIN_NAME.fullmatch(name), name)
                self.assertNotIn(name, vars(builtins))
            for node in tree:
                if isinstance(node, ast.Name):
                    self.assertIn(node.id, list(PYTHONS_OWN) + bound)
                if isinstance(node, ast.Attribute):
                    self.assertIn(node.attr, list(METHODS) + own_attributes())

    def test_classes(self):
        for path in files():
            for node in nodes(path):
                if isinstance(node, ast.ClassDef):
                    self.assertEqual(node.decorator_list + node.keywords, [])
                    self.assertLessEqual(len(node.bases), 1)
                    for inner in node.body:
                        self.assertIsInstance(inner, (ast.FunctionDef, ast.Expr, ast.Pass))
        for name in own_attributes():
            self.assertTrue(PLAIN_NAME.fullmatch(name), name)
            for sort in PYTHONS_VALUES:
                self.assertFalse(hasattr(sort, name), name)

    def test_no_two_files_draw_from_one_another(self):
        drawn = {}
        for path in files():
            modules = [node.module for node in nodes(path) if isinstance(node, ast.ImportFrom)]
            drawn[path.stem] = {module.split(".", 1)[1] for module in modules}
        while drawn:
            free = [name for name in drawn if not drawn[name]]
            self.assertNotEqual(free, [], drawn)
            drawn = {name: drawn[name] - set(free) for name in drawn if name not in free}


if __name__ == "__main__":
    unittest.main()
