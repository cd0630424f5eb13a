"""The rules of the language that can be seen in the source by a simple look."""

import ast
import builtins
import re
import unittest
from pathlib import Path

PACKAGE = Path(__file__).resolve().parent.parent / "coarseviews"

# L8, without chr (L27), and with super (L5), property, staticmethod and classmethod (L5).
BUILTINS = """
    len range enumerate zip min max sum abs sorted reversed int str bool bytes list tuple dict set frozenset isinstance
    ord repr any all divmod pow getattr hasattr setattr iter next map Exception ValueError TypeError KeyError IndexError
    LookupError ZeroDivisionError ArithmeticError OverflowError RuntimeError NotImplementedError AttributeError
    StopIteration NotImplemented super property staticmethod classmethod
""".split()
LIBRARY = ("heapq", "math", "itertools", "collections", "__future__")
DOUBLE = ("__init__", "__eq__", "__repr__", "__str__", "__len__", "__enter__", "__exit__", "__call__", "__iter__")
BARRED = ("typing", "enum", "Enum", "dataclass", "namedtuple", "overload", "contextmanager", "Generic", "Protocol")
NEVER = (ast.Global, ast.AsyncFunctionDef, ast.AsyncFor, ast.AsyncWith, ast.Await, ast.Div)


class LanguageTest(unittest.TestCase):

    def setUp(self):
        self.files = sorted(path for path in PACKAGE.rglob("*") if path.is_file() and path.suffix != ".pyc")
        self.trees = [(path.name, ast.parse(path.read_text("utf-8"))) for path in self.files]

    def nodes(self, *kinds):
        return [(name, node) for name, tree in self.trees for node in ast.walk(tree) if isinstance(node, kinds)]

    def test_files(self):
        self.assertTrue((PACKAGE / "__init__.py").is_file())
        for path in self.files:
            self.assertRegex(path.name, r"^[a-z_][a-z0-9_]*\.py$")
            self.assertFalse(path.name.startswith("test"))

    def test_characters_and_sizes(self):
        for path in self.files:
            text = path.read_text("utf-8")
            self.assertIsNone(re.search(r"[^ -~\n]", text), path)
            lines = text.split("\n")
            self.assertLessEqual(len(lines), 400, path)
            self.assertLessEqual(max(len(line) for line in lines), 120, path)
        for name, node in self.nodes(ast.FunctionDef):
            self.assertLessEqual(node.end_lineno - node.lineno + 1, 40, (name, node.name))

    def test_imports(self):
        self.assertEqual(self.nodes(ast.Import), [])
        for name, node in self.nodes(ast.ImportFrom):
            self.assertEqual(node.level, 0, name)
            self.assertTrue(node.module in LIBRARY or node.module.startswith("coarseviews."), (name, node.module))
            if node.module.startswith("coarseviews."):
                made = [other.name for file, tree in self.trees if file == node.module.split(".")[1] + ".py"
                        for other in tree.body if isinstance(other, (ast.FunctionDef, ast.ClassDef))]
                for alias in node.names:
                    self.assertIn(alias.name, made, name)

    def test_builtins(self):
        for name, node in self.nodes(ast.Name):
            if isinstance(node.ctx, ast.Load):
                self.assertTrue(node.id in BUILTINS or not hasattr(builtins, node.id), (name, node.id))
            else:
                self.assertFalse(hasattr(builtins, node.id), (name, node.id))
        for name, node in self.nodes(ast.arg):
            self.assertFalse(hasattr(builtins, node.arg), (name, node.arg))

    def test_names(self):
        for name, node in self.nodes(ast.FunctionDef, ast.ClassDef):
            if node.name.startswith("__"):
                self.assertIn(node.name, DOUBLE, name)
            for decorator in node.decorator_list:
                self.assertRegex(ast.unparse(decorator), r"^(property|staticmethod|classmethod|[a-z_]+\.setter)$")
        for path in self.files:
            for word in BARRED:
                self.assertIsNone(re.search(rf"\b{word}\b", path.read_text("utf-8")), (path, word))

    def test_statements_and_values(self):
        self.assertEqual(self.nodes(*NEVER), [])
        # Scale has __eq__, so that any, all and the like take lists.
        self.assertEqual(self.nodes(ast.GeneratorExp), [])
        for name, node in self.nodes(ast.Constant):
            self.assertNotIsInstance(node.value, (float, complex), name)
            if isinstance(node.value, str):
                self.assertNotIn(chr(37), node.value, name)
        for name, node in self.nodes(ast.Try):
            for handler in node.handlers:
                self.assertNotIn(ast.unparse(handler.type or node), ("Exception", "TypeError", "ValueError"), name)

    def test_nothing_runs_at_module_level(self):
        plain = (ast.ImportFrom, ast.FunctionDef, ast.ClassDef, ast.Assign)
        for name, tree in self.trees:
            for at, node in enumerate(tree.body):
                is_docstring = at == 0 and isinstance(node, ast.Expr) and isinstance(node.value, ast.Constant)
                self.assertTrue(is_docstring or isinstance(node, plain), (name, node.lineno))
