"""The package keeps to its part of Python: what of those rules is easily seen from a file."""

import ast
import builtins
import pathlib
import re
import unittest

PACKAGE = pathlib.Path(__file__).resolve().parent.parent / "editedlex"
FILES = sorted(path for path in PACKAGE.rglob("*") if "__pycache__" not in path.parts)

NODES = {
    "Module", "Expr", "Constant", "FunctionDef", "arguments", "arg", "ClassDef", "ImportFrom", "alias", "Assign",
    "AugAssign", "If", "While", "For", "Return", "Break", "Continue", "Pass", "Raise", "Try", "ExceptHandler", "Call",
    "keyword", "Name", "Load", "Store", "Attribute", "Subscript", "Slice", "Tuple", "List", "Dict", "ListComp",
    "comprehension", "IfExp", "Lambda", "BoolOp", "And", "Or", "UnaryOp", "Not", "USub", "Invert", "BinOp", "Add",
    "Sub", "Mult", "FloorDiv", "Mod", "LShift", "RShift", "BitOr", "BitAnd", "BitXor", "Compare", "Eq", "NotEq", "Lt",
    "LtE", "Gt", "GtE", "In", "NotIn", "Is", "IsNot", "JoinedStr", "FormattedValue"}
BUILTINS = {
    "len", "range", "enumerate", "zip", "min", "max", "sum", "abs", "sorted", "reversed", "int", "str", "bool", "list",
    "tuple", "dict", "set", "isinstance", "ord", "repr", "any", "all", "divmod", "ValueError", "KeyError"}
METHODS = {
    "append", "clear", "copy", "count", "extend", "find", "get", "index", "insert", "items", "join", "keys", "pop",
    "remove", "replace", "reverse", "setdefault", "update", "values", "bit_length"}
WORDS = re.compile(
    r"\b(type|typing|typing_extensions|enum|Enum|IntEnum|StrEnum|Flag|IntFlag|Generic|Protocol|ABC|ABCMeta|namedtuple"
    r"|NamedTuple|TypedDict|TYPE_CHECKING|abstractmethod)\b|dataclass|overload|contextmanager")
NAME = re.compile(r"[A-Za-z][A-Za-z0-9_]*|__init__")


def bound_names(tree):
    """Every name that a file gives a meaning to."""
    names = set()
    for node in ast.walk(tree):
        if isinstance(node, (ast.FunctionDef, ast.ClassDef)):
            names.add(node.name)
        elif isinstance(node, ast.arg):
            names.add(node.arg)
        elif isinstance(node, ast.alias):
            names.add(node.name)
        elif isinstance(node, ast.Name) and isinstance(node.ctx, ast.Store):
            names.add(node.id)
    return names


class Language(unittest.TestCase):
    def setUp(self):
        self.sources = {path: path.read_text("ascii") for path in FILES}
        self.trees = {path: ast.parse(source) for path, source in self.sources.items()}

    def test_files(self):
        self.assertIn(PACKAGE / "__init__.py", FILES)
        for path in FILES:
            self.assertTrue(path.is_file() and re.fullmatch(r"[a-z0-9_]+\.py", path.name), path)

    def test_signs_and_sizes(self):
        for path, source in self.sources.items():
            self.assertIsNone(re.search(r"[^\n -~]", source), path)
            self.assertIsNone(WORDS.search(source), path)
            self.assertLessEqual(len(source.splitlines()), 400, path)
            self.assertLessEqual(max(len(line) for line in source.splitlines()), 120, path)

    def test_forms(self):
        for path, tree in self.trees.items():
            for node in ast.walk(tree):
                where = (path.name, getattr(node, "lineno", 0), type(node).__name__)
                self.assertIn(type(node).__name__, NODES, where)
                if isinstance(node, ast.FunctionDef):
                    self.assertLessEqual(node.end_lineno - node.lineno + 1, 40, where)
                    self.assertEqual(node.decorator_list, [], where)
                if isinstance(node, ast.Assign):
                    self.assertEqual(len(node.targets), 1, where)
                if isinstance(node, (ast.For, ast.While)):
                    self.assertEqual(node.orelse, [], where)
                if isinstance(node, ast.Constant):
                    self.assertIn(type(node.value), (int, str, bool, type(None)), where)

    def test_imports(self):
        for path, tree in self.trees.items():
            for node in ast.walk(tree):
                if isinstance(node, ast.ImportFrom):
                    self.assertEqual(node.level, 0, path)
                    source = PACKAGE.parent / (node.module.replace(".", "/") + ".py")
                    self.assertIn(source, FILES, path)
                    for name in node.names:
                        self.assertIn(name.name, bound_names(self.trees[source]), path)

    def test_names(self):
        methods = {node.name for tree in self.trees.values() for part in tree.body if isinstance(part, ast.ClassDef)
                   for node in part.body if isinstance(node, ast.FunctionDef)}
        for path, tree in self.trees.items():
            bound = bound_names(tree)
            self.assertEqual([name for name in bound if not NAME.fullmatch(name)], [], path)
            self.assertEqual([name for name in bound if name in dir(builtins)], [], path)
            for node in ast.walk(tree):
                if isinstance(node, ast.Name) and isinstance(node.ctx, ast.Load):
                    self.assertIn(node.id, bound | BUILTINS, (path.name, node.lineno))
                if isinstance(node, ast.Call) and isinstance(node.func, ast.Attribute):
                    self.assertIn(node.func.attr, methods | METHODS, (path.name, node.lineno))


if __name__ == "__main__":
    unittest.main()
