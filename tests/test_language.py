"""Rules of the subset of Python that a look at the files can tell: imports, sizes, characters and statements."""

import ast
import builtins
import unittest
from pathlib import Path

FOLDER = Path(__file__).resolve().parent.parent / "thenbeside"
FILES = sorted(FOLDER.glob("*.py"))
TREES = [(path, ast.parse(path.read_text(encoding="utf-8"))) for path in FILES]
LIBRARY = {"math": {"gcd", "lcm", "isqrt", "comb", "perm", "factorial"},
           "itertools": {"product", "combinations", "permutations"}}
BARRED = (ast.AsyncFunctionDef, ast.Global, ast.Import, ast.Await, ast.AsyncFor, ast.AsyncWith)


class LanguageTest(unittest.TestCase):
    def test_folder_contains_python_files_only(self):
        names = {path.name for path in FOLDER.iterdir() if path.name != "__pycache__"}
        self.assertEqual(names, {path.name for path in FILES})
        self.assertIn("__init__.py", names)

    def test_characters_and_lengths(self):
        for path in FILES:
            data = path.read_bytes()
            self.assertTrue(all(byte == 10 or 32 <= byte <= 126 for byte in data), path.name)
            lines = data.decode().splitlines()
            self.assertLessEqual(len(lines), 399, path.name)
            self.assertLessEqual(max(map(len, lines)), 120, path.name)

    def test_functions_are_small(self):
        for path, tree in TREES:
            for node in ast.walk(tree):
                if isinstance(node, ast.FunctionDef):
                    self.assertLessEqual(node.end_lineno - node.lineno + 1, 40, (path.name, node.name))
                    self.assertEqual(node.decorator_list, [])

    def test_imports(self):
        for path, tree in TREES:
            for node in ast.walk(tree):
                if isinstance(node, ast.ImportFrom):
                    self.assertEqual(node.level, 0)
                    names = {alias.name for alias in node.names}
                    if node.module.startswith("thenbeside."):
                        source = ast.parse((FOLDER / f"{node.module.split('.')[1]}.py").read_text())
                        self.assertLessEqual(names, named(source), path.name)
                    else:
                        self.assertLessEqual(names, LIBRARY[node.module], path.name)

    def test_statements(self):
        for path, tree in TREES:
            for node in ast.walk(tree):
                self.assertNotIsInstance(node, BARRED, path.name)
                if isinstance(node, ast.Constant):
                    self.assertNotIsInstance(node.value, (float, complex), path.name)

    def test_no_name_has_two_meanings(self):
        for path, tree in TREES:
            # The name _ is one of the builtins only while examples are run.
            taken = (imported(tree) | set(dir(builtins))) - {"_"}
            for node in ast.walk(tree):
                if isinstance(node, ast.arg):
                    self.assertNotIn(node.arg, taken, path.name)
                elif isinstance(node, ast.Name) and isinstance(node.ctx, ast.Store):
                    self.assertNotIn(node.id, taken, path.name)
                elif isinstance(node, ast.FunctionDef):
                    self.assertNotIn(node.name, taken, path.name)

    def test_each_import_is_used(self):
        for path, tree in TREES:
            used = {node.id for node in ast.walk(tree) if isinstance(node, ast.Name)}
            self.assertLessEqual(imported(tree), used, path.name)

    def test_no_two_files_import_from_each_other(self):
        below = {path.stem: sources(tree) for path, tree in TREES}
        while below:
            free = [name for name, others in below.items() if not others & set(below)]
            self.assertTrue(free, below)
            below = {name: others for name, others in below.items() if name not in free}


def imported(tree):
    """The names that a file imports."""
    return {alias.name for node in tree.body if isinstance(node, ast.ImportFrom) for alias in node.names}


def sources(tree):
    """The names of the files of the package from which a file imports."""
    modules = [node.module for node in tree.body if isinstance(node, ast.ImportFrom)]
    return {module.split(".")[1] for module in modules if module.startswith("thenbeside.")}


def named(tree):
    """The names that a file defines at its uppermost level."""
    found = {node.name for node in tree.body if isinstance(node, (ast.FunctionDef, ast.ClassDef))}
    for node in tree.body:
        if isinstance(node, ast.Assign):
            found.update(target.id for target in node.targets)
    return found


if __name__ == "__main__":
    unittest.main()
