"""Checks of the rules of the language that can be seen in the files at a glance."""

import ast
import builtins
import os
import re
import unittest

PACKAGE = os.path.join(os.path.dirname(os.path.dirname(os.path.abspath(__file__))), "archway")
LIBRARY = ("heapq", "math", "itertools", "collections", "__future__")
# Names that L12 and L17 bar.
BARRED = (
    "register mro elements open input law version_info with_traceback add_note attrgetter methodcaller gc "
    "importlib os sys _cold _tuplegetter _outside _record _written_out _member_names"
).split()
WORDS = "type typing enum Enum Flag Generic Protocol ABC namedtuple dataclass overload contextmanager".split()
METHODS = (
    "items keys values pop update append clear extend insert remove reverse setdefault sort args encode "
    "decode hex fromhex format"
).split()


def bound_names(tree):
    """List the names that a file gives to functions, classes, parameters and variables."""
    found = []
    for node in ast.walk(tree):
        if isinstance(node, (ast.FunctionDef, ast.ClassDef)):
            found.append(node.name)
        elif isinstance(node, ast.arg):
            found.append(node.arg)
        elif isinstance(node, ast.Name) and isinstance(node.ctx, ast.Store):
            found.append(node.id)
    return found


def docstrings(tree):
    """List the nodes of the docstrings of a file."""
    found = []
    for node in ast.walk(tree):
        if isinstance(node, (ast.Module, ast.FunctionDef, ast.ClassDef)) and ast.get_docstring(node) is not None:
            found.append(node.body[0].value)
    return found


def source_files():
    """List the paths of all files of the package."""
    found = []
    for folder, folders, names in os.walk(PACKAGE):
        folders[:] = [name for name in folders if name != "__pycache__"]
        found += [os.path.join(folder, name) for name in names]
    return sorted(found)


class Files(unittest.TestCase):
    def setUp(self):
        self.sources = {}
        for path in source_files():
            with open(path, encoding="utf-8", newline="") as opened:
                self.sources[path] = opened.read()

    def test_the_package_holds_python_files_only(self):
        self.assertIn(os.path.join(PACKAGE, "__init__.py"), self.sources)
        for path in self.sources:
            self.assertRegex(os.path.basename(path), r"\A[a-z0-9_]+\.py\Z")

    def test_characters(self):
        for path, source in self.sources.items():
            self.assertRegex(source, r"\A[ -~\n]*\Z", path)

    def test_sizes(self):
        for path, source in self.sources.items():
            lines = source.splitlines()
            self.assertLessEqual(len(lines), 399, path)
            self.assertLessEqual(max([len(line) for line in lines], default=0), 120, path)
            for node in ast.walk(ast.parse(source)):
                if isinstance(node, ast.FunctionDef):
                    self.assertLessEqual(node.end_lineno - node.lineno + 1, 40, node.name)

    def test_imports_stand_at_the_top_and_name_the_package_or_the_library(self):
        for path, source in self.sources.items():
            body = ast.parse(source).body
            inside = [node for node in ast.walk(ast.parse(source)) if isinstance(node, ast.ImportFrom)]
            at_top = [node for node in body if isinstance(node, ast.ImportFrom)]
            self.assertEqual(len(inside), len(at_top), path)
            for node in at_top:
                own = node.module is not None and node.module.startswith("archway.")
                self.assertEqual(node.level, 0, path)
                self.assertTrue(own or node.module in LIBRARY, path)

    def test_names(self):
        for path, source in self.sources.items():
            tree = ast.parse(source)
            methods = [
                part.name for node in ast.walk(tree) if isinstance(node, ast.ClassDef)
                for part in node.body if isinstance(part, ast.FunctionDef)
            ]
            taken = [name.name for node in tree.body if isinstance(node, ast.ImportFrom) for name in node.names]
            taken += [node.name for node in tree.body if isinstance(node, ast.ClassDef)]
            for name in bound_names(tree):
                with self.subTest(path=path, name=name):
                    self.assertNotIn(name, BARRED)
                    self.assertTrue(name in methods or not hasattr(builtins, name))
                    self.assertTrue(taken.count(name) <= 1)
                    if not name[0].isupper():
                        self.assertTrue(name in methods or name not in taken)

    def test_attributes(self):
        for path, source in self.sources.items():
            for node in ast.walk(ast.parse(source)):
                if isinstance(node, ast.Attribute) and isinstance(node.ctx, ast.Store):
                    self.assertNotIn(node.attr, METHODS, path)

    def test_words_and_strings(self):
        for path, source in self.sources.items():
            tree = ast.parse(source)
            without = [id(node) for node in docstrings(tree)]
            for node in ast.walk(tree):
                if isinstance(node, ast.Constant) and isinstance(node.value, str) and id(node) not in without:
                    self.assertNotIn("%", node.value, path)
                    self.assertNotRegex(node.value, r"\A__.*__\Z", path)
                    self.assertFalse(node.value.endswith("._") or node.value.endswith(".__"), path)
                    self.assertEqual(set(re.findall(r"\w+", node.value)) & set(WORDS), set(), path)
                if isinstance(node, ast.Name):
                    self.assertNotIn(node.id, WORDS, path)

    def test_statements_and_signs(self):
        barred = (
            ast.Global, ast.AsyncFunctionDef, ast.Await, ast.Div, ast.Import, ast.Set, ast.SetComp,
        )
        for path, source in self.sources.items():
            for node in ast.walk(ast.parse(source)):
                where = f"{path}:{getattr(node, 'lineno', 0)}"
                if isinstance(node, ast.AugAssign):
                    self.assertNotIsInstance(node.op, ast.Div, where)
                elif isinstance(node, barred):
                    self.fail(f"{where} has a {node.__class__.__name__}")
                if isinstance(node, (ast.FunctionDef, ast.ClassDef)):
                    self.assertEqual(node.decorator_list, [], where)
                if isinstance(node, ast.Constant):
                    self.assertNotIsInstance(node.value, (float, complex), where)
                if isinstance(node, ast.Compare):
                    for sign, side in zip(node.ops, node.comparators):
                        if isinstance(sign, (ast.Is, ast.IsNot)):
                            self.assertIsInstance(side, ast.Constant, where)

    def test_what_is_iterated_at_once(self):
        takers = "list tuple dict sorted sum any all enumerate zip min max len reversed map".split()
        for path, source in self.sources.items():
            parents = {}
            for node in ast.walk(ast.parse(source)):
                for part in ast.iter_child_nodes(node):
                    parents[part] = node
            for node, parent in parents.items():
                if not isinstance(node, ast.Call):
                    continue
                name = getattr(node.func, "id", getattr(node.func, "attr", ""))
                if name not in ("range", "zip", "enumerate", "reversed", "items", "keys", "values"):
                    continue
                if name == "values" and isinstance(node.func, ast.Name):
                    continue
                iterated = isinstance(parent, (ast.For, ast.comprehension)) and parent.iter is node
                taken = isinstance(parent, ast.Call) and getattr(parent.func, "id", "") in takers
                kept = name == "range" and isinstance(parent, ast.Assign)
                self.assertTrue(iterated or taken or kept, f"{path}:{node.lineno}")

    def test_no_name_is_a_method_and_an_attribute(self):
        methods, attributes = {}, {}
        for path, source in self.sources.items():
            for owner in [node for node in ast.parse(source).body if isinstance(node, ast.ClassDef)]:
                for node in ast.walk(owner):
                    if isinstance(node, ast.FunctionDef):
                        methods.setdefault(node.name, []).append(owner.name)
                    if isinstance(node, ast.Attribute) and isinstance(node.ctx, ast.Store):
                        attributes.setdefault(node.attr, []).append(owner.name)
        self.assertEqual(set(methods) & set(attributes), set())

    def test_no_two_files_import_from_each_other(self):
        imports = {}
        for path, source in self.sources.items():
            name = "archway." + os.path.basename(path)[:-3]
            imports[name] = [
                node.module for node in ast.parse(source).body if isinstance(node, ast.ImportFrom)
            ]
        while imports:
            free = [name for name, needed in imports.items() if not [one for one in needed if one in imports]]
            self.assertNotEqual(free, [], imports)
            for name in free:
                del imports[name]


if __name__ == "__main__":
    unittest.main()
