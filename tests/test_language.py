"""Checks of the rules of the language that can be seen in the files at a glance."""

import ast
import os
import unittest

PACKAGE = os.path.join(os.path.dirname(os.path.dirname(os.path.abspath(__file__))), "archway")
LIBRARY = ("heapq", "math", "itertools", "collections", "__future__")


def source_files():
    """List the paths of all files of the package."""
    found = []
    for folder, folders, names in os.walk(PACKAGE):
        folders[:] = [name for name in folders if name != "__pycache__"]
        found += [os.path.join(folder, name) for name in names]
    return sorted(found)


class Files(unittest.TestCase):
    def setUp(self):
        self.sources = {}
        for path in source_files():
            with open(path, encoding="utf-8", newline="") as opened:
                self.sources[path] = opened.read()

    def test_the_package_holds_python_files_only(self):
        self.assertIn(os.path.join(PACKAGE, "__init__.py"), self.sources)
        for path in self.sources:
            self.assertRegex(os.path.basename(path), r"\A[a-z0-9_]+\.py\Z")

    def test_characters(self):
        for path, source in self.sources.items():
            self.assertRegex(source, r"\A[ -~\n]*\Z", path)

    def test_sizes(self):
        for path, source in self.sources.items():
            lines = source.splitlines()
            self.assertLessEqual(len(lines), 399, path)
            self.assertLessEqual(max([len(line) for line in lines], default=0), 120, path)
            for node in ast.walk(ast.parse(source)):
                if isinstance(node, ast.FunctionDef):
                    self.assertLessEqual(node.end_lineno - node.lineno + 1, 40, node.name)

    def test_imports_stand_at_the_top_and_name_the_package_or_the_library(self):
        for path, source in self.sources.items():
            body = ast.parse(source).body
            inside = [node for node in ast.walk(ast.parse(source)) if isinstance(node, ast.ImportFrom)]
            at_top = [node for node in body if isinstance(node, ast.ImportFrom)]
            self.assertEqual(len(inside), len(at_top), path)
            for node in at_top:
                own = node.module is not None and node.module.startswith("archway.")
                self.assertEqual(node.level, 0, path)
                self.assertTrue(own or node.module in LIBRARY, path)


if __name__ == "__main__":
    unittest.main()
