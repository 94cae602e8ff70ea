"""Rules for the files of the package that can be read off their text."""

import ast
import builtins
import unittest
from pathlib import Path

PACKAGE = Path(__file__).resolve().parent.parent / "degreerows"
LIBRARY = {
    "heapq": {"heappush", "heappop", "heapify", "heapreplace", "heappushpop"},
    "math": {"gcd", "lcm", "isqrt", "comb", "perm", "factorial"},
    "itertools": {
        "product", "combinations", "permutations", "chain", "accumulate", "pairwise", "islice", "zip_longest",
    },
    "collections": {"defaultdict", "deque"},
}


def trees():
    return [(path, ast.parse(path.read_text("utf-8"))) for path in sorted(PACKAGE.rglob("*.py"))]


def nodes(*kinds):
    return [(path, node) for path, tree in trees() for node in ast.walk(tree) if isinstance(node, kinds)]


class Files(unittest.TestCase):
    def test_the_folder_holds_files_of_python_only(self):
        found = [path.name for path in PACKAGE.iterdir() if path.name != "__pycache__"]
        self.assertIn("__init__.py", found)
        self.assertEqual([name for name in found if not name.endswith(".py")], [])

    def test_sizes(self):
        for path, _ in trees():
            lines = path.read_text("utf-8").splitlines()
            self.assertLess(len(lines), 400, path)
            self.assertLessEqual(max([len(line) for line in lines] + [0]), 120, path)
        for path, node in nodes(ast.FunctionDef):
            self.assertLessEqual(node.end_lineno - node.lineno + 1, 40, (path, node.name))

    def test_characters(self):
        for path, _ in trees():
            for sign in path.read_text("utf-8"):
                self.assertTrue(sign == "\n" or " " <= sign <= "~", path)

    def test_imports(self):
        for path, _ in nodes(ast.Import):
            self.assertEqual(path.name, "__main__.py")
        for path, node in nodes(ast.ImportFrom):
            self.assertEqual(node.level, 0, path)
            names = {name.name for name in node.names}
            self.assertTrue(node.module.startswith("degreerows.") or names <= LIBRARY[node.module], path)

    def test_statements_and_values_that_are_not_used(self):
        barred = (ast.Global, ast.Nonlocal, ast.AsyncFunctionDef, ast.Await, ast.Div, ast.GeneratorExp, ast.Yield)
        self.assertEqual([(path.name, node.lineno) for path, node in nodes(*barred)], [])
        for path, node in nodes(ast.Constant):
            self.assertNotIsInstance(node.value, (float, complex), path)
            self.assertFalse(isinstance(node.value, str) and "%" in node.value, path)

    def test_names_of_parameters_and_variables(self):
        """None of them has the name of a builtin, or of a class, a function or an import of its file."""
        for path, tree in trees():
            taken = set(dir(builtins))
            for node in tree.body:
                if isinstance(node, (ast.ClassDef, ast.FunctionDef)):
                    taken.add(node.name)
                if isinstance(node, ast.ImportFrom):
                    taken |= {name.name for name in node.names}
            for node in ast.walk(tree):
                if isinstance(node, ast.arg):
                    self.assertNotIn(node.arg, taken, path)
                if isinstance(node, ast.Name) and isinstance(node.ctx, ast.Store):
                    self.assertNotIn(node.id, taken, path)

    def test_imports_are_used_and_lead_to_no_ring(self):
        imports = {}
        for path, tree in trees():
            used = {node.id for node in ast.walk(tree) if isinstance(node, ast.Name)}
            told = [node for node in ast.walk(tree) if isinstance(node, ast.ImportFrom)]
            for node in told:
                self.assertLessEqual({name.name for name in node.names}, used, path)
            imports[f"degreerows.{path.stem}"] = {node.module for node in told}
        while imports:
            free = [name for name, needed in imports.items() if not needed & set(imports)]
            self.assertNotEqual(free, [], imports)
            imports = {name: needed for name, needed in imports.items() if name not in free}

    def test_what_trials_do_when_they_end(self):
        """Few statements are let there: no calls, no items, and nothing is read of an error."""
        for path, node in nodes(ast.FunctionDef):
            if node.name == "__exit__":
                for part in ast.walk(node):
                    self.assertNotIsInstance(part, (ast.Call, ast.Subscript, ast.BinOp), path)
                    self.assertFalse(isinstance(part, ast.Name) and part.id in ("value", "trace"), path)


if __name__ == "__main__":
    unittest.main()
