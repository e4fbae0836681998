"""The form of the package's files, as far as a short check can see it."""

import ast
import inspect
import unittest
from pathlib import Path

from lateststore import (book, desk, errors, fencing, images, likeness, orders, programs, programtexts, recoveries, rounds,
                         rules)

PACKAGE = Path(__file__).resolve().parent.parent / "lateststore"
DOUBLE = ("__init__", "__eq__", "__add__", "__contains__")

INTERFACE = {
    programs: {
        "Memory": ["sizes"], "Store": ["line", "word", "number"], "Flush": ["line"], "Fence": [],
        "Program": ["memory", "commands"], "stores": ["program"], "made": ["program", "time"],
        "sure": ["program", "time"],
    },
    images: {
        "cuts": ["program", "image"], "Box": ["time", "low", "high"], "boxes": ["program"], "count": ["program"],
        "image_at": ["program", "place"], "place_of": ["program", "image"], "contents": ["program", "image"],
    },
    likeness: {
        "Parted": ["image", "is_first"], "differ": ["one", "other"], "needless": ["program"],
        "trimmed": ["program"],
    },
    orders: {"breach": ["program", "order"], "orders": ["program"]},
    fencing: {
        "Fenced": ["result", "apart"], "Never": ["order"], "fenced": ["memory", "stores", "orders"],
    },
    rules: {
        "Is": ["line", "word", "numbers"], "find": ["program", "conditions"],
        "broken": ["program", "given", "wanted"],
    },
    recoveries: {
        "Copy": ["line", "word", "from_line", "from_word"], "Step": ["conditions", "moves"],
        "Recovery": ["memory", "steps"], "settle": ["recovery", "words"],
        "Failed": ["image", "second", "words"], "check": ["program", "recovery", "good"],
    },
    rounds: {"count_repeated": ["memory", "head", "block", "tail", "rounds"]},
    book: {"Book": ["memory"]},
    programtexts: {
        "program_text": ["program"], "read_program": ["memory", "text"], "condition_text": ["condition"],
        "read_condition": ["text"],
    },
    desk: {"Desk": ["memory"]},
}
METHODS = {
    book.Book: {
        "add": ["command"], "take": [], "program": [], "rule": ["name", "given", "wanted"], "drop": ["name"], "names": [],
        "state": ["name"], "many": [], "back": [],
    },
    desk.Desk: {"tell": ["row"]},
}


class FormTest(unittest.TestCase):
    def files(self):
        found = sorted(PACKAGE.glob("*.py"))
        self.assertGreaterEqual(len(found), 13)
        return [(path, path.read_bytes()) for path in found]

    def test_only_files_of_the_package(self):
        there = [path.name for path in PACKAGE.iterdir() if path.name != "__pycache__"]
        self.assertEqual([name for name in there if not name.endswith(".py")], [])

    def test_sizes_and_characters(self):
        for path, data in self.files():
            rows = data.decode("ascii").split("\n")
            self.assertLessEqual(len(rows), 399, path)
            for row in rows:
                self.assertLessEqual(len(row), 120, row)
                self.assertTrue(row.isprintable(), row)

    def test_functions(self):
        for path, data in self.files():
            for node in ast.walk(ast.parse(data)):
                if isinstance(node, ast.FunctionDef):
                    self.assertLessEqual(node.end_lineno - node.lineno + 1, 40, f"{path} {node.name}")
                    self.assertEqual(node.decorator_list, [])
                    if node.name.startswith("__"):
                        self.assertIn(node.name, DOUBLE)

    def test_imports(self):
        for path, data in self.files():
            for node in ast.walk(ast.parse(data)):
                self.assertNotIsInstance(node, ast.Import, path)
                if isinstance(node, ast.ImportFrom):
                    self.assertEqual(node.level, 0)
                    self.assertTrue(node.module.startswith("lateststore."), node.module)

    def test_interface(self):
        for module, listed in INTERFACE.items():
            for name, parameters in listed.items():
                found = vars(module)[name]
                self.assertEqual(found.__module__, module.__name__)
                if name != "Fence":
                    self.assertEqual(list(inspect.signature(found).parameters), parameters, name)
        self.assertEqual(vars(errors)["StoreError"].__module__, "lateststore.errors")

    def test_methods(self):
        for kind, listed in METHODS.items():
            for name, parameters in listed.items():
                self.assertEqual(list(inspect.signature(vars(kind)[name]).parameters), ["self", *parameters], name)


if __name__ == "__main__":
    unittest.main()
