"""What holds of the package as a whole: where its names stand, and what it may use."""

import ast
import importlib
import inspect
import os
import unittest

PACKAGE = os.path.join(os.path.dirname(os.path.dirname(os.path.abspath(__file__))), "leasewatch")

# The interface: file, class, and the parameters of each of its methods.
METHODS = {
    ("leases", "Leases"): {
        "grant": ["self", "now", "ticks"],
        "renew": ["self", "now", "lease"],
        "drop": ["self", "lease"],
        "due": ["self", "until"],
    },
}
# Modules that only reckon; none of them reaches a clock, chance or files.
USABLE = ["__future__", "collections", "heapq", "itertools", "math"]
REACHING_OUT = ["open", "input", "eval", "exec", "compile", "__import__", "breakpoint"]


def sources():
    """The name and the text of each file of the package."""
    for name in sorted(os.listdir(PACKAGE)):
        if name != "__pycache__":
            with open(os.path.join(PACKAGE, name), encoding="utf-8") as held:
                yield name, held.read()


class Interface(unittest.TestCase):
    def test_each_class_is_defined_in_its_file(self):
        for stem, name in METHODS:
            with self.subTest(name=name):
                module = importlib.import_module("leasewatch." + stem)
                self.assertEqual(getattr(module, name).__module__, module.__name__)

    def test_each_method_stands_in_its_class_with_its_arguments(self):
        for (stem, name), methods in METHODS.items():
            held = vars(getattr(importlib.import_module("leasewatch." + stem), name))
            for method, parameters in methods.items():
                with self.subTest(name=name, method=method):
                    self.assertIn(method, held)
                    self.assertEqual(list(inspect.signature(held[method]).parameters), parameters)

    def test_classes_without_arguments_are_called_without_any(self):
        leases = importlib.import_module("leasewatch.leases")
        self.assertEqual(len(inspect.signature(leases.Leases).parameters), 0)


class Sources(unittest.TestCase):
    def test_the_folder_holds_python_files_only(self):
        for name, _ in sources():
            self.assertTrue(name.endswith(".py"), name)

    def test_no_clock_no_chance_no_files(self):
        for name, text in sources():
            for node in ast.walk(ast.parse(text)):
                with self.subTest(name=name):
                    self.assertNotIsInstance(node, ast.Import)
                    if isinstance(node, ast.ImportFrom):
                        self.assertEqual(node.level, 0)
                        self.assertIn(node.module.split(".")[0], USABLE + ["leasewatch"])
                    if isinstance(node, ast.Name):
                        self.assertNotIn(node.id, REACHING_OUT)

    def test_signs_and_sizes(self):
        for name, text in sources():
            with self.subTest(name=name):
                self.assertTrue(all(sign == "\n" or " " <= sign <= "~" for sign in text))
                self.assertLessEqual(len(text.splitlines()), 399)
                self.assertLessEqual(max(len(line) for line in text.splitlines()), 120)
                for node in ast.walk(ast.parse(text)):
                    if isinstance(node, ast.FunctionDef):
                        self.assertLessEqual(node.end_lineno - node.lineno + 1, 40, node.name)


if __name__ == "__main__":
    unittest.main()
