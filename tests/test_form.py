"""The package's files keep to the part of Python that the program is written in."""

import ast
import builtins
import pathlib
import re
import unittest

PACKAGE = pathlib.Path(__file__).resolve().parent.parent / "shiplock"
FILES = sorted(path for path in PACKAGE.rglob("*") if "__pycache__" not in path.parts)

NODES = {
    "Module", "FunctionDef", "ClassDef", "arguments", "arg", "Assign", "AugAssign", "If", "While", "For", "Return",
    "Break", "Continue", "Pass", "Expr", "Constant", "List", "Tuple", "Dict", "BinOp", "UnaryOp", "BoolOp", "Compare",
    "IfExp", "Call", "Attribute", "Subscript", "Slice", "ListComp", "comprehension", "Name", "Load", "Store",
    "Add", "Sub", "Mult", "FloorDiv", "Mod", "USub", "Not", "And", "Or",
    "Eq", "NotEq", "Lt", "LtE", "Gt", "GtE", "In", "NotIn", "Is", "IsNot",
}
BUILT_IN = {"len", "range", "enumerate", "zip", "min", "max", "sum", "abs", "sorted", "reversed", "list", "tuple",
            "dict", "any", "all", "divmod"}
METHODS = {"append", "extend", "pop", "get", "copy", "insert", "index", "count"}
WORDS = ("type", "typing", "typing_extensions", "enum", "Enum", "IntEnum", "StrEnum", "Flag", "IntFlag", "Generic",
         "Protocol", "ABC", "ABCMeta", "namedtuple", "NamedTuple", "TypedDict", "TYPE_CHECKING", "abstractmethod")
UNUSED = {"register", "mro", "elements", "open", "input", "version_info", "with_traceback", "add_note", "format"}


class Form(unittest.TestCase):
    def each(self):
        for path in FILES:
            with self.subTest(file=path.name):
                text = path.read_text(encoding="utf-8")
                yield text, ast.parse(text)

    def test_files(self):
        for path in FILES:
            self.assertTrue(path.is_file() and re.fullmatch(r"[a-z0-9_]+\.py", path.name), path)
        self.assertIn(PACKAGE / "__init__.py", FILES)
        self.assertIn(PACKAGE / "desk.py", FILES)

    def test_signs_and_sizes(self):
        for text, tree in self.each():
            lines = text.split("\n")
            self.assertLessEqual(len(lines), 400)
            self.assertLessEqual(max(map(len, lines)), 120)
            self.assertRegex(text, r"\A[ -~\n]*\Z")
            for node in ast.walk(tree):
                if isinstance(node, ast.FunctionDef):
                    self.assertLessEqual(node.end_lineno - node.lineno + 1, 40, node.name)

    def test_words(self):
        for text, tree in self.each():
            for word in WORDS:
                self.assertNotRegex(text, rf"\b{word}\b")
            self.assertNotRegex(text, "dataclass|overload|contextmanager")

    def test_nodes(self):
        """Imports are not among them: the program imports nothing."""
        for text, tree in self.each():
            for node in ast.walk(tree):
                self.assertIn(node.__class__.__name__, NODES, getattr(node, "lineno", 0))
                if isinstance(node, ast.Constant):
                    self.assertIn(node.value.__class__.__name__, ("int", "str", "bool", "NoneType"))
                if isinstance(node, ast.Assign):
                    self.assertEqual(len(node.targets), 1)
                    self.assertIsInstance(node.targets[0], (ast.Name, ast.Attribute, ast.Subscript))
                if isinstance(node, (ast.While, ast.For)):
                    self.assertEqual(node.orelse, [])
                if isinstance(node, (ast.FunctionDef, ast.ClassDef)):
                    self.assertEqual(node.decorator_list, [])

    def test_names(self):
        for text, tree in self.each():
            own = {node.name for node in tree.body if isinstance(node, (ast.FunctionDef, ast.ClassDef))}
            methods = {node.name for part in tree.body if isinstance(part, ast.ClassDef) for node in part.body
                       if isinstance(node, ast.FunctionDef)}
            values = {node.attr for node in ast.walk(tree)
                      if isinstance(node, ast.Attribute) and isinstance(node.ctx, ast.Store)}
            self.assertEqual(methods & values, set())
            for node in ast.walk(tree):
                self.name_is_plain(node, own, methods)

    def name_is_plain(self, node, own, methods):
        if isinstance(node, ast.Call):
            if isinstance(node.func, ast.Name):
                self.assertIn(node.func.id, own | BUILT_IN)
            else:
                self.assertIn(node.func.attr, methods | METHODS)
        name = getattr(node, "id", getattr(node, "attr", getattr(node, "arg", None)))
        if name is not None:
            self.assertRegex(name, r"\A[A-Za-z][A-Za-z0-9_]*\Z")
            self.assertNotIn(name, UNUSED)
        stored = isinstance(node, ast.arg) or isinstance(node, ast.Name) and isinstance(node.ctx, ast.Store)
        if stored:
            self.assertFalse(hasattr(builtins, name) or name in own and name[0].isupper(), name)

    def test_top_of_each_file(self):
        for text, tree in self.each():
            for node in tree.body:
                if isinstance(node, ast.Expr):
                    self.assertIs(node, tree.body[0])
                else:
                    self.assertIsInstance(node, (ast.FunctionDef, ast.ClassDef, ast.Assign))
