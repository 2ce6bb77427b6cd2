"""[1]: no clock, chance or files; and the form of the package's files."""

import ast
import pathlib
import unittest

import boxheap

FOLDER = pathlib.Path(boxheap.__file__).parent
LIBRARY = {
    "heapq": {"heappush", "heappop", "heapify", "heapreplace", "heappushpop"},
    "math": {"gcd", "lcm", "isqrt", "comb", "perm", "factorial"},
    "itertools": {"product", "combinations", "permutations", "chain", "accumulate", "pairwise", "islice",
                  "zip_longest"},
    "collections": {"defaultdict", "deque"},
}
OUTSIDE = ["open", "input", "print", "eval", "exec", "compile", "breakpoint", "globals", "vars", "id", "hash"]


def files():
    """List the files of the package with their texts."""
    return [(path, path.read_text("utf-8")) for path in sorted(FOLDER.glob("*.py"))]


def nodes():
    """List all nodes of the files of the package."""
    return [(path, node) for path, text in files() for node in ast.walk(ast.parse(text))]


class OutsideTest(unittest.TestCase):
    def test_only_the_package_and_plain_helpers_are_imported(self):
        for path, node in nodes():
            with self.subTest(path=path.name, line=getattr(node, "lineno", 0)):
                self.assertNotIsInstance(node, ast.Import)
                if isinstance(node, ast.ImportFrom) and node.module.split(".")[0] != "boxheap":
                    self.assertIn(node.module, LIBRARY)
                    self.assertLessEqual({name.name for name in node.names}, LIBRARY[node.module])

    def test_no_builtin_reaches_outside(self):
        for path, node in nodes():
            if isinstance(node, ast.Name):
                with self.subTest(path=path.name, line=node.lineno):
                    self.assertNotIn(node.id, OUTSIDE)


class FormTest(unittest.TestCase):
    def test_the_folder_holds_python_files_alone(self):
        # Whoever runs the tests by hand may leave compiled files there, which git ignores.
        found = [path for path in FOLDER.iterdir() if path.name != "__pycache__"]
        self.assertEqual([path.name for path in found if path.suffix != ".py"], [])

    def test_lines_and_files_are_short_and_plain(self):
        for path, text in files():
            lines = text.split("\n")
            self.assertLessEqual(len(lines), 399, path.name)
            for number, line in enumerate(lines, 1):
                with self.subTest(path=path.name, line=number):
                    self.assertLessEqual(len(line), 120)
                    self.assertTrue(all(" " <= sign <= "~" for sign in line))

    def test_functions_are_short(self):
        for path, node in nodes():
            if isinstance(node, ast.FunctionDef):
                with self.subTest(path=path.name, name=node.name):
                    self.assertLessEqual(node.end_lineno - node.lineno + 1, 40)


if __name__ == "__main__":
    unittest.main()
