"""Some rules of the language that can be seen in the files of the package."""

import ast
import unittest
from pathlib import Path

FOLDER = Path(__file__).resolve().parent.parent / "cornerranks"
LIBRARY = {"math": {"gcd", "lcm", "isqrt", "comb", "perm", "factorial"}}
BUILTINS = {
    "len", "range", "enumerate", "zip", "min", "max", "sum", "abs", "sorted", "reversed", "int", "str", "bool", "bytes",
    "list", "tuple", "dict", "set", "isinstance", "ord", "repr", "any", "all", "divmod", "pow", "super", "map", "iter",
    "next", "ValueError", "KeyError", "IndexError", "TypeError", "ZeroDivisionError",
}
PYTHON_S_OWN = set(dir(__builtins__) if not isinstance(__builtins__, dict) else __builtins__)


class Files(unittest.TestCase):
    def setUp(self):
        self.files = sorted(FOLDER.rglob("*.py"))
        self.texts = {path: path.read_text(encoding="utf-8") for path in self.files}
        self.trees = {path: ast.parse(text) for path, text in self.texts.items()}

    def nodes(self, *kinds):
        for path, tree in self.trees.items():
            for node in ast.walk(tree):
                if isinstance(node, kinds):
                    yield path, node

    def test_the_folder_holds_nothing_else(self):
        self.assertIn(FOLDER / "__init__.py", self.files)
        for path in FOLDER.rglob("*"):
            if "__pycache__" not in path.parts:
                self.assertTrue(path.is_dir() or path.suffix == ".py", path)

    def test_sizes_and_signs(self):
        for path, text in self.texts.items():
            lines = text.split("\n")
            self.assertLess(len(lines), 401, path)
            for line in lines:
                self.assertLessEqual(len(line), 120, path)
                self.assertTrue(all(" " <= sign <= "~" for sign in line), path)
        for path, node in self.nodes(ast.FunctionDef):
            self.assertLessEqual(node.end_lineno - node.lineno + 1, 40, (path, node.name))

    def test_imports(self):
        for path, node in self.nodes(ast.Import):
            self.fail((path, node.lineno))
        for path, node in self.nodes(ast.ImportFrom):
            self.assertEqual((node.level, [name.asname for name in node.names]), (0, [None] * len(node.names)), path)
            names = {name.name for name in node.names}
            if node.module in LIBRARY:
                self.assertLessEqual(names, LIBRARY[node.module], path)
            else:
                self.assertTrue(node.module.startswith("cornerranks."), path)

    def test_no_floats_and_no_strange_statements(self):
        for path, node in self.nodes(ast.Constant):
            self.assertNotIsInstance(node.value, (float, complex), (path, node.lineno))
        for path, node in self.nodes(ast.Div, ast.Global, ast.AsyncFunctionDef, ast.Await):
            self.fail((path, node))
        for path, node in self.nodes(ast.FunctionDef, ast.ClassDef):
            self.assertEqual(node.decorator_list, [], (path, node.name))

    def test_builtins(self):
        for path, node in self.nodes(ast.Name):
            if node.id in PYTHON_S_OWN:
                self.assertIn(node.id, BUILTINS, (path, node.lineno))
                self.assertIsInstance(node.ctx, ast.Load, (path, node.lineno))

    def test_names_mean_one_thing(self):
        for path, tree in self.trees.items():
            fixed = {name.name for node in ast.walk(tree) if isinstance(node, ast.ImportFrom) for name in node.names}
            fixed |= {node.name for node in tree.body if isinstance(node, (ast.FunctionDef, ast.ClassDef))}
            for node in ast.walk(tree):
                if isinstance(node, ast.arg):
                    self.assertNotIn(node.arg, fixed, (path, node.lineno))
                if isinstance(node, ast.Name) and isinstance(node.ctx, ast.Store):
                    self.assertNotIn(node.id, fixed, (path, node.lineno))

    def test_nothing_is_left_unused(self):
        for path, tree in self.trees.items():
            read = {node.id for node in ast.walk(tree) if isinstance(node, ast.Name)}
            for node in ast.walk(tree):
                names = [name.name for name in node.names] if isinstance(node, ast.ImportFrom) else []
                if isinstance(node, ast.FunctionDef) and node.name.startswith("_") and node.name != "__init__":
                    names = [node.name]
                self.assertLessEqual(set(names), read, path)

    def test_is_beside_none_alone(self):
        for path, node in self.nodes(ast.Compare):
            for sign, other in zip(node.ops, node.comparators):
                if isinstance(sign, (ast.Is, ast.IsNot)):
                    self.assertIsInstance(other, ast.Constant, (path, node.lineno))

    def test_each_function_says_what_it_does(self):
        for path, node in self.nodes(ast.FunctionDef):
            self.assertTrue(ast.get_docstring(node) or node.name == "__init__", (path, node.name))

    def test_no_two_files_import_from_each_other(self):
        wanted = {path.stem: {node.module.split(".")[1] for node in ast.walk(tree) if isinstance(node, ast.ImportFrom)
                              and node.module.startswith("cornerranks.")} for path, tree in self.trees.items()}
        done = []
        while len(done) < len(wanted):
            ready = [name for name in wanted if name not in done and wanted[name] <= set(done)]
            self.assertTrue(ready, wanted)
            done += ready


if __name__ == "__main__":
    unittest.main()
