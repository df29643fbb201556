"""The rules of the Python subset that a simple look at the files of the package can check."""

import ast
import builtins
import unittest
from pathlib import Path

PACKAGE = Path(__file__).resolve().parent.parent / "fontwinding"
BUILTINS = set("""
    len range enumerate zip min max sum abs sorted reversed int str bool bytes list tuple dict set frozenset
    isinstance ord repr any all divmod pow getattr hasattr setattr iter next map super property staticmethod
    classmethod Exception ValueError TypeError KeyError IndexError LookupError ZeroDivisionError ArithmeticError
    OverflowError RuntimeError NotImplementedError AttributeError StopIteration NotImplemented type
    """.split())
LIBRARY = {"heapq", "math", "itertools", "collections"}
DECORATORS = {"property", "staticmethod", "classmethod"}
METHODS = set("""
    __init__ __eq__ __repr__ __str__ __len__ __enter__ __exit__ __call__ __iter__ __lt__ __le__ __gt__ __ge__ __ne__
    __add__ __sub__ __mul__ __neg__ __bool__ __contains__ __getitem__ __setitem__
    """.split())
BARRED = (ast.AsyncFunctionDef, ast.Await, ast.Global, ast.Div, ast.MatMult, ast.Starred)


def own_names(tree):
    """All names that a file binds, wherever it does."""
    names = set()
    for node in ast.walk(tree):
        if isinstance(node, (ast.FunctionDef, ast.ClassDef)):
            names.add(node.name)
        elif isinstance(node, ast.arg):
            names.add(node.arg)
        elif isinstance(node, ast.alias):
            names.add(node.asname or node.name)
        elif isinstance(node, ast.Name) and isinstance(node.ctx, (ast.Store, ast.Del)):
            names.add(node.id)
        elif isinstance(node, ast.ExceptHandler) and node.name is not None:
            names.add(node.name)
    return names


class LanguageTest(unittest.TestCase):
    def setUp(self):
        self.files = sorted(path for path in PACKAGE.rglob("*") if "__pycache__" not in path.parts)
        self.texts = {path.name: path.read_bytes().decode("ascii") for path in self.files}
        self.trees = {name: ast.parse(text) for name, text in self.texts.items()}

    def test_the_folder_contains_python_files_only(self):
        self.assertIn("__init__.py", self.texts)
        for path in self.files:
            self.assertRegex(path.name, r"^[a-z0-9_]+\.py$")
            self.assertFalse(path.name.startswith("test"))

    def test_characters_and_sizes(self):
        for name, text in self.texts.items():
            rows = text.split("\n")
            self.assertLessEqual(len(rows), 399, name)
            for at, row in enumerate(rows, 1):
                self.assertLessEqual(len(row), 120, f"{name}:{at}")
                self.assertTrue(all(" " <= sign <= "~" for sign in row), f"{name}:{at}")
            for node in ast.walk(self.trees[name]):
                if isinstance(node, ast.FunctionDef):
                    self.assertLessEqual(node.end_lineno - node.lineno + 1, 40, f"{name}: {node.name}")

    def test_imports(self):
        for name, tree in self.trees.items():
            imports = [node for node in ast.walk(tree) if isinstance(node, (ast.Import, ast.ImportFrom))]
            for node in imports:
                self.assertIsInstance(node, ast.ImportFrom, name)
                self.assertEqual(node.level, 0, name)
                self.assertIn(node, tree.body, name)
                self.assertTrue(all(alias.asname is None and alias.name != "*" for alias in node.names), name)
                if node.module in LIBRARY:
                    continue
                folder, _, file = node.module.partition(".")
                self.assertEqual(folder, "fontwinding", name)
                defined = self.module_names(self.trees[file + ".py"])
                self.assertTrue(all(alias.name in defined for alias in node.names), f"{name}: {node.module}")

    def module_names(self, tree):
        """The names that a file itself defines at module level."""
        names = set()
        for node in tree.body:
            if isinstance(node, (ast.FunctionDef, ast.ClassDef)):
                names.add(node.name)
            elif isinstance(node, ast.Assign):
                names.add(node.targets[0].id)
        return names

    def test_imports_do_not_go_in_circles(self):
        ahead = {name: [node.module.partition(".")[2] + ".py" for node in tree.body
                        if isinstance(node, ast.ImportFrom) and node.module.startswith("fontwinding")]
                 for name, tree in self.trees.items()}
        while ahead:
            ready = [name for name, others in ahead.items() if not any(other in ahead for other in others)]
            self.assertTrue(ready, sorted(ahead))
            for name in ready:
                del ahead[name]

    def test_module_level(self):
        for name, tree in self.trees.items():
            for at, node in enumerate(tree.body):
                docstring = at == 0 and isinstance(node, ast.Expr) and isinstance(node.value, ast.Constant)
                kinds = (ast.ImportFrom, ast.FunctionDef, ast.ClassDef, ast.Assign)
                self.assertTrue(docstring or isinstance(node, kinds), f"{name}:{node.lineno}")
                if isinstance(node, ast.Assign):
                    self.assertEqual(len(node.targets), 1)
                    self.assertIsInstance(node.targets[0], ast.Name)

    def test_statements_and_values(self):
        for name, tree in self.trees.items():
            for node in ast.walk(tree):
                where = f"{name}:{getattr(node, 'lineno', 0)}"
                self.assertNotIsInstance(node, BARRED, where)
                if isinstance(node, ast.Constant):
                    self.assertNotIsInstance(node.value, (float, complex), where)
                if isinstance(node, ast.FunctionDef):
                    told = [decorator.id for decorator in node.decorator_list if isinstance(decorator, ast.Name)]
                    self.assertEqual(len(told), len(node.decorator_list), where)
                    self.assertLessEqual(set(told), DECORATORS, where)
                    if node.name.startswith("__"):
                        self.assertIn(node.name, METHODS, where)
                if isinstance(node, ast.Raise):
                    self.assertIsInstance(node.exc, ast.Call, where)

    def test_builtins(self):
        for name, tree in self.trees.items():
            # An interactive session, and doctest too, leaves `_` among the builtins.
            own = own_names(tree) - {"_"}
            self.assertEqual(own & set(dir(builtins)), set(), name)
            for node in ast.walk(tree):
                if isinstance(node, ast.Name) and isinstance(node.ctx, ast.Load) and node.id not in own:
                    self.assertIn(node.id, BUILTINS, f"{name}:{node.lineno}")

    def test_no_local_name_has_the_name_of_an_import_or_a_class(self):
        for name, tree in self.trees.items():
            taken = {node.name for node in tree.body if isinstance(node, ast.ClassDef)}
            for node in tree.body:
                if isinstance(node, ast.ImportFrom):
                    taken |= {alias.name for alias in node.names}
            for node in ast.walk(tree):
                if isinstance(node, ast.FunctionDef):
                    local = {a.arg for a in ast.walk(node) if isinstance(a, ast.arg)}
                    local |= {n.id for n in ast.walk(node) if isinstance(n, ast.Name) and isinstance(n.ctx, ast.Store)}
                    self.assertEqual(local & taken, set(), f"{name}: {node.name}")


if __name__ == "__main__":
    unittest.main()
