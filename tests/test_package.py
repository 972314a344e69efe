"""Point 1: no clock, no chance, no files; and the outward form of the package."""

import ast
import pathlib
import unittest

FOLDER = pathlib.Path(__file__).resolve().parent.parent / "meanpace"
LIBRARY = {
    "heapq": {"heappush", "heappop", "heapify", "heapreplace", "heappushpop"},
    "math": {"gcd", "lcm", "isqrt", "comb", "perm", "factorial"},
    "itertools": {
        "product", "combinations", "permutations", "chain", "accumulate",
        "pairwise", "islice", "zip_longest",
    },
    "collections": {"defaultdict", "deque"},
    "__future__": {"annotations"},
}
BARRED = {
    "open", "input", "print", "eval", "exec", "compile", "globals", "locals", "vars",
    "hash", "id", "dir", "__import__", "__builtins__",
}

LISTED = {"__init__.py", "errors.py", "webs.py", "rings.py", "paces.py", "settling.py"}


def sources():
    """The path, the text and the tree of each file of the package."""
    found = []
    for path in sorted(FOLDER.rglob("*.py")):
        text = path.read_text(encoding="utf-8")
        found.append((path, text, ast.parse(text)))
    return found


class PackageTest(unittest.TestCase):
    def test_the_package_is_there(self):
        names = {path.name for path, _, _ in sources()}
        self.assertLessEqual(LISTED, names)

    def test_the_folder_holds_only_files_of_the_program(self):
        for path in FOLDER.rglob("*"):
            if path.is_file() and path.parent.name != "__pycache__":
                self.assertEqual(path.suffix, ".py", path)

    def test_nothing_is_imported_that_has_a_clock_chance_or_files(self):
        for path, _, tree in sources():
            for node in ast.walk(tree):
                with self.subTest(path=path.name, line=getattr(node, "lineno", 0)):
                    self.assertNotIsInstance(node, ast.Import)
                    if isinstance(node, ast.ImportFrom):
                        self.assertEqual(node.level, 0)
                        self.check_import(node)

    def check_import(self, node):
        if node.module.split(".")[0] != "meanpace":
            self.assertIn(node.module, LIBRARY)
            for alias in node.names:
                self.assertIn(alias.name, LIBRARY[node.module])

    def test_no_builtin_is_named_that_reaches_outside(self):
        for path, _, tree in sources():
            named = {node.id for node in ast.walk(tree) if isinstance(node, ast.Name)}
            self.assertEqual(named & BARRED, set(), path.name)

    def test_the_sizes_and_the_signs(self):
        for path, text, tree in sources():
            lines = text.split("\n")
            self.assertLessEqual(len(lines), 399, path.name)
            self.assertLessEqual(max(len(line) for line in lines), 120, path.name)
            self.assertTrue(all(" " <= sign <= "~" or sign == "\n" for sign in text))
            for node in ast.walk(tree):
                if isinstance(node, ast.FunctionDef):
                    self.assertLessEqual(node.end_lineno - node.lineno, 39, node.name)


if __name__ == "__main__":
    unittest.main()
