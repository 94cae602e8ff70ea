"""Rules for the files of the package that can be read off their text."""

import ast
import unittest
from pathlib import Path

PACKAGE = Path(__file__).resolve().parent.parent / "degreerows"
LIBRARY = {
    "heapq": {"heappush", "heappop", "heapify", "heapreplace", "heappushpop"},
    "math": {"gcd", "lcm", "isqrt", "comb", "perm", "factorial"},
    "itertools": {
        "product", "combinations", "permutations", "chain", "accumulate", "pairwise", "islice", "zip_longest",
    },
    "collections": {"defaultdict", "deque"},
}


def trees():
    return [(path, ast.parse(path.read_text("utf-8"))) for path in sorted(PACKAGE.rglob("*.py"))]


def nodes(*kinds):
    return [(path, node) for path, tree in trees() for node in ast.walk(tree) if isinstance(node, kinds)]


class Files(unittest.TestCase):
    def test_the_folder_holds_files_of_python_only(self):
        found = [path.name for path in PACKAGE.iterdir() if path.name != "__pycache__"]
        self.assertIn("__init__.py", found)
        self.assertEqual([name for name in found if not name.endswith(".py")], [])

    def test_sizes(self):
        for path, _ in trees():
            lines = path.read_text("utf-8").splitlines()
            self.assertLess(len(lines), 400, path)
            self.assertLessEqual(max([len(line) for line in lines] + [0]), 120, path)
        for path, node in nodes(ast.FunctionDef):
            self.assertLessEqual(node.end_lineno - node.lineno + 1, 40, (path, node.name))

    def test_characters(self):
        for path, _ in trees():
            for sign in path.read_text("utf-8"):
                self.assertTrue(sign == "\n" or " " <= sign <= "~", path)

    def test_imports(self):
        for path, _ in nodes(ast.Import):
            self.assertEqual(path.name, "__main__.py")
        for path, node in nodes(ast.ImportFrom):
            self.assertEqual(node.level, 0, path)
            names = {name.name for name in node.names}
            self.assertTrue(node.module.startswith("degreerows.") or names <= LIBRARY[node.module], path)

    def test_statements_and_values_that_are_not_used(self):
        barred = (ast.Global, ast.Nonlocal, ast.AsyncFunctionDef, ast.Await, ast.Div, ast.GeneratorExp, ast.Yield)
        self.assertEqual([(path.name, node.lineno) for path, node in nodes(*barred)], [])
        for path, node in nodes(ast.Constant):
            self.assertNotIsInstance(node.value, (float, complex), path)
            self.assertFalse(isinstance(node.value, str) and "%" in node.value, path)


if __name__ == "__main__":
    unittest.main()
