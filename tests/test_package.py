"""The interface as the document lists it, file by file, and the form of the files."""

import ast
import inspect
import unittest
from importlib import import_module
from pathlib import Path

from tests.test_errors import NAMES

PACKAGE = Path(__file__).resolve().parent.parent / "paircounts"

FUNCTIONS = {
    "numbers": {"count_rows": 1, "rows_of": 1, "nth_row": 2, "row_number": 1},
    "patterns": {"fits": 2, "pair_range": 2, "count_fillings": 2, "nth_filling": 3},
    "places": {"prefix_range": 2, "letters_at": 2, "certain_row": 1, "is_told": 1},
    "rows": {"is_row": 1, "prefix_counts": 1, "pairs_in": 1, "walk_rows": 2},
    "runs": {"is_runs": 1, "runs_of": 1, "row_of": 1, "counts_of": 1, "letter_at": 2, "fewest_far": 2},
    "strands": {
        "is_wide_row": 1, "strands_of": 1, "wide_counts": 1, "are_strands": 1, "least_row": 1, "fewest_free": 2,
        "fewest_strand": 2, "count_classes": 1,
    },
    "swaps": {
        "is_swap": 2, "swapped": 2, "swaps_of": 1, "fewest_swaps": 2, "way_between": 2, "is_way": 3, "is_between": 3,
        "count_between": 2,
    },
    "texts": {
        "show_runs": 1, "show_counts": 1, "show_swap": 1, "read_runs": 1, "read_counts": 1, "read_swap": 1,
    },
}
CLASSES = {
    "errors": {"PairError": [], **{name: [] for name in NAMES}},
    "console": {"Console": ["__init__", "execute"]},
    "counts": {
        "Counts": [
            "of", "many_a", "many_b", "pairs", "__add__", "__mul__", "__invert__", "__neg__", "__contains__", "__eq__",
            "least_runs", "greatest_runs",
        ],
    },
    "live": {
        "LiveRow": [
            "__init__", "apply", "tried", "put", "cut", "turn", "exchange", "undo", "row", "counts", "changes", "twin",
            "__len__", "__eq__",
        ],
    },
}


class Interface(unittest.TestCase):
    def test_functions_are_defined_in_their_files(self):
        for name, functions in FUNCTIONS.items():
            module = import_module("paircounts." + name)
            for function, many in functions.items():
                found = getattr(module, function)
                self.assertTrue(inspect.isfunction(found), function)
                self.assertEqual(found.__module__, "paircounts." + name)
                self.assertEqual(len(inspect.signature(found).parameters), many, function)

    def test_classes_and_methods_are_defined_in_their_files(self):
        for name, classes in CLASSES.items():
            module = import_module("paircounts." + name)
            for class_name, methods in classes.items():
                found = getattr(module, class_name)
                self.assertTrue(inspect.isclass(found), class_name)
                self.assertEqual(found.__module__, "paircounts." + name)
                for method in methods:
                    self.assertIn(method, vars(found))


class Files(unittest.TestCase):
    def setUp(self):
        self.texts = {path.name: path.read_text(encoding="utf-8") for path in PACKAGE.glob("*.py")}

    def test_only_files_of_python(self):
        self.assertIn("__init__.py", self.texts)
        names = [path.name for path in PACKAGE.iterdir() if path.name != "__pycache__"]
        self.assertEqual(sorted(names), sorted(self.texts))

    def test_sizes_and_characters(self):
        for name, text in self.texts.items():
            lines = text.split("\n")
            self.assertLess(len(lines), 400, name)
            for line in lines:
                self.assertLessEqual(len(line), 120, name)
                self.assertTrue(all(" " <= sign <= "~" for sign in line), name)

    def test_functions_have_at_most_forty_lines(self):
        for name, text in self.texts.items():
            for node in ast.walk(ast.parse(text)):
                if isinstance(node, ast.FunctionDef):
                    self.assertLessEqual(node.end_lineno - node.lineno + 1, 40, name)

    def test_nothing_but_the_package_and_isqrt_is_imported(self):
        for name, text in self.texts.items():
            for node in ast.walk(ast.parse(text)):
                self.assertNotIsInstance(node, ast.Import, name)
                if isinstance(node, ast.ImportFrom) and not node.module.startswith("paircounts."):
                    found = (node.module, [(alias.name, alias.asname) for alias in node.names])
                    self.assertEqual(found, ("math", [("isqrt", None)]), name)
