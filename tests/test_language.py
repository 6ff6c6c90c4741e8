"""A part of what ../shared/LANGUAGE.md asks of the files of the package, as far as a short test can see it."""

import ast
import builtins
import pathlib
import unittest

PACKAGE = pathlib.Path(__file__).resolve().parent.parent / "endlessnets"
LIBRARY = {"heapq": ("heappush", "heappop", "heapify"), "math": ("gcd", "lcm", "isqrt", "comb"),
           "itertools": ("product", "combinations", "permutations"), "collections": ("defaultdict", "deque")}
FORBIDDEN = (ast.Global, ast.GeneratorExp, ast.AsyncFunctionDef, ast.Div, ast.Import)


def files():
    return sorted(PACKAGE.glob("*"))


def bound_names(tree):
    """The names of parameters and local variables anywhere in a file."""
    found = {node.arg for node in ast.walk(tree) if isinstance(node, ast.arg)}
    stored = (node for node in ast.walk(tree) if isinstance(node, ast.Name) and isinstance(node.ctx, ast.Store))
    return found | {node.id for node in stored}


class LanguageTest(unittest.TestCase):
    def test_files(self):
        self.assertIn(PACKAGE / "__init__.py", files())
        for path in files():
            if path.name == "__pycache__":
                continue
            self.assertTrue(path.is_file() and path.suffix == ".py" and path.stem == path.stem.lower(), path)
            lines = path.read_text().split("\n")
            self.assertLess(len(lines), 400, path)
            for line in lines:
                self.assertTrue(len(line) <= 120 and all(" " <= sign <= "~" for sign in line), (path, line))

    def test_functions(self):
        for path, tree in trees_of_files():
            for node in ast.walk(tree):
                if isinstance(node, ast.FunctionDef):
                    self.assertLessEqual(node.end_lineno - node.lineno + 1, 40, (path, node.name))

    def test_imports(self):
        for path, tree in trees_of_files():
            for node in ast.walk(tree):
                if isinstance(node, ast.ImportFrom):
                    names = [alias.name for alias in node.names]
                    self.assertTrue(all(alias.asname is None for alias in node.names), path)
                    if node.module in LIBRARY:
                        self.assertTrue(all(name in LIBRARY[node.module] for name in names), path)
                        continue
                    package, _, module = node.module.partition(".")
                    self.assertEqual((package, node.level), ("endlessnets", 0), path)
                    source = ast.parse((PACKAGE / f"{module}.py").read_text())
                    self.assertTrue(set(names) <= top_names(source), (path, names))

    def test_imports_are_used(self):
        for path, tree in trees_of_files():
            imported = [alias.name for node in tree.body if isinstance(node, ast.ImportFrom) for alias in node.names]
            used = {node.id for node in ast.walk(tree) if isinstance(node, ast.Name)}
            self.assertEqual([name for name in imported if name not in used], [], path)
            self.assertEqual(len(imported), len(set(imported)), path)

    def test_names(self):
        for path, tree in trees_of_files():
            classes = {node.name for node in tree.body if isinstance(node, ast.ClassDef)}
            imported = {alias.name for node in tree.body if isinstance(node, ast.ImportFrom) for alias in node.names}
            inside = set()
            for node in ast.walk(tree):
                if isinstance(node, ast.FunctionDef):
                    inside |= bound_names(node)
            self.assertEqual(inside & (classes | imported), set(), path)
            self.assertEqual((inside | top_names(tree)) & set(dir(builtins)), set(), path)

    def test_no_cycles(self):
        needs = {path.stem: {node.module.partition(".")[2] for node in tree.body if isinstance(node, ast.ImportFrom)
                             and node.module not in LIBRARY} for path, tree in trees_of_files()}
        while needs:
            free = [name for name in needs if not needs[name] & set(needs)]
            self.assertTrue(free, needs)
            for name in free:
                del needs[name]

    def test_forbidden_syntax(self):
        for path, tree in trees_of_files():
            for node in ast.walk(tree):
                self.assertNotIsInstance(node, FORBIDDEN, (path, getattr(node, "lineno", 0)))
                if isinstance(node, ast.Constant):
                    self.assertNotIsInstance(node.value, float)
                    self.assertFalse(isinstance(node.value, str) and "%" in node.value, path)


def trees_of_files():
    return [(path, ast.parse(path.read_text())) for path in files() if path.suffix == ".py"]


def top_names(tree):
    found = {node.name for node in tree.body if isinstance(node, (ast.FunctionDef, ast.ClassDef))}
    return found | {node.targets[0].id for node in tree.body if isinstance(node, ast.Assign)}


if __name__ == "__main__":
    unittest.main()
