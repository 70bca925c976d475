"""The section "The interface", and those rules of the language that can be told from the files alone."""

import ast
import importlib
import inspect
import pathlib
import unittest

ROOT = pathlib.Path(__file__).resolve().parent.parent
PACKAGE = ROOT / "likeshelf"

FUNCTIONS = {
    "pictures": {
        "need_picture": ["rows"],
        "mirrored": ["rows"],
        "turned": ["rows"],
        "moved": ["rows", "way"],
        "small": ["rows", "size"],
        "difference": ["one", "other"],
    },
    "likeness": {
        "apart": ["one", "other", "kind"],
        "bounds": ["one", "other", "kind"],
    },
    "asking": {
        "within": ["shelf", "rows", "span"],
        "nearest": ["shelf", "rows", "many"],
        "sieve": ["shelf", "rows", "span", "size"],
    },
    "bunches": {
        "pairs": ["shelf", "span"],
        "bunches": ["shelf", "span"],
        "middle": ["shelf"],
        "closest": ["shelf"],
        "thinned": ["shelf", "span"],
    },
    "finding": {
        "sums": ["rows"],
        "places": ["rows", "little", "span"],
    },
    "notes": {
        "written": ["shelf"],
        "read": ["text"],
    },
}
CLASSES = {
    "shelves": {
        "Shelf": {
            "__init__": ["self", "high", "wide", "kind"],
            "put": ["self", "name", "rows"],
            "out": ["self", "name"],
            "names": ["self"],
            "picture": ["self", "name"],
            "tree": ["self"],
        },
    },
}
LIBRARY = {"heapq", "math", "itertools", "collections"}


def parsed():
    """Each file of the package, its text and its tree."""
    for path in sorted(PACKAGE.rglob("*.py")):
        text = path.read_text(encoding="utf-8")
        yield path, text, ast.parse(text)


class Interface(unittest.TestCase):
    def test_functions_stand_in_their_files_with_their_arguments(self):
        for file, functions in FUNCTIONS.items():
            module = importlib.import_module(f"likeshelf.{file}")
            for name, arguments in functions.items():
                with self.subTest(file=file, name=name):
                    function = getattr(module, name)
                    self.assertEqual(function.__module__, module.__name__)
                    self.assertEqual(list(inspect.signature(function).parameters), arguments)

    def test_classes_define_their_methods_themselves(self):
        for file, classes in CLASSES.items():
            module = importlib.import_module(f"likeshelf.{file}")
            for name, methods in classes.items():
                kind = getattr(module, name)
                self.assertEqual(kind.__module__, module.__name__)
                for method, arguments in methods.items():
                    with self.subTest(name=name, method=method):
                        self.assertEqual(list(inspect.signature(vars(kind)[method]).parameters), arguments)


class Language(unittest.TestCase):
    def test_the_package_holds_py_files_alone(self):
        for path in PACKAGE.rglob("*"):
            if "__pycache__" not in path.parts:
                self.assertTrue(path.is_file() and path.suffix == ".py", path)
                self.assertRegex(path.name, r"^[a-z0-9_]+\.py$")

    def test_sizes_and_characters(self):
        for path, text, tree in parsed():
            rows = text.split("\n")
            self.assertLessEqual(len(rows), 399, path)
            for row in rows:
                self.assertLessEqual(len(row), 120, path)
                self.assertTrue(all(" " <= sign <= "~" for sign in row), (path, row))
            for node in ast.walk(tree):
                if isinstance(node, ast.FunctionDef):
                    self.assertLessEqual(node.end_lineno - node.lineno + 1, 40, (path, node.name))

    def test_imports_name_the_package_or_the_allowed_library(self):
        for path, _, tree in parsed():
            for node in ast.walk(tree):
                self.assertNotIsInstance(node, ast.Import, path)
                if isinstance(node, ast.ImportFrom):
                    self.assertIn(node, tree.body, path)
                    self.assertEqual(node.level, 0, path)
                    top = node.module.split(".")[0]
                    self.assertTrue(top == "likeshelf" or node.module in LIBRARY, (path, node.module))

    def test_what_the_language_leaves_out(self):
        barred = (ast.Global, ast.AsyncFunctionDef, ast.Await, ast.AsyncFor, ast.AsyncWith, ast.Div)
        for path, _, tree in parsed():
            for node in ast.walk(tree):
                self.assertNotIsInstance(node, barred, path)
                if isinstance(node, ast.Constant):
                    self.assertNotIsInstance(node.value, (float, complex), path)
                if isinstance(node, ast.Constant) and isinstance(node.value, str):
                    self.assertNotIn("%", node.value, path)
                if isinstance(node, ast.Name):
                    self.assertNotIn(node.id, ["print", "open", "input", "eval", "exec", "chr"], path)


if __name__ == "__main__":
    unittest.main()
