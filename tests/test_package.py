"""What holds of the package as a whole: where its names stand, and what it may use."""

import ast
import importlib
import inspect
import os
import unittest

PACKAGE = os.path.join(os.path.dirname(os.path.dirname(os.path.abspath(__file__))), "leasewatch")

# The interface: file, class, and the parameters of each of its methods, with
# their defaults.
METHODS = {
    ("leases", "Leases"): {
        "grant": "(self, now, ticks)",
        "renew": "(self, now, lease)",
        "drop": "(self, lease)",
        "due": "(self, until)",
    },
    ("log", "Log"): {
        "note": "(self, tick, word, key, value)",
        "last": "(self)",
        "first": "(self)",
        "wanted": "(self, prefix, behind, most)",
        "forget": "(self, upto)",
    },
    ("room", "Room"): {
        "grant": "(self, ticks)",
        "renew": "(self, lease)",
        "drop": "(self, lease)",
        "wait": "(self, ticks)",
        "put": "(self, key, value, lease=0)",
        "cut": "(self, key, lease=0)",
        "value": "(self, key)",
        "holder": "(self, key)",
        "pairs": "(self, prefix)",
        "last": "(self)",
        "first": "(self)",
        "watch": "(self, prefix, start)",
        "pull": "(self, watcher, most)",
        "confirm": "(self, watcher)",
        "broken": "(self, watcher)",
        "leave": "(self, watcher)",
        "trim": "(self)",
    },
    ("ears", "Ear"): {
        "hear": "(self, changes)",
        "heard": "(self)",
        "state": "(self)",
    },
    ("ears", "Line"): {
        "turn": "(self, most, luck)",
    },
}
# The arguments by which each class is called, and those of the function.
CALLED = {
    ("leases", "Leases"): "()",
    ("log", "Log"): "()",
    ("room", "Room"): "()",
    ("ears", "Ear"): "(start=1, pairs=None)",
    ("ears", "Line"): "(room, prefix, start, pairs=None)",
    ("ears", "line_now"): "(room, prefix)",
}
# Modules that only reckon; none of them reaches a clock, chance or files.
USABLE = ["__future__", "collections", "heapq", "itertools", "math"]
REACHING_OUT = ["open", "input", "eval", "exec", "compile", "__import__", "breakpoint"]


def sources():
    """The name and the text of each file of the package."""
    for name in sorted(os.listdir(PACKAGE)):
        if name != "__pycache__":
            with open(os.path.join(PACKAGE, name), encoding="utf-8") as held:
                yield name, held.read()


def found(stem, name):
    return getattr(importlib.import_module("leasewatch." + stem), name)


class Interface(unittest.TestCase):
    def test_each_name_is_defined_in_its_file(self):
        for stem, name in CALLED:
            with self.subTest(name=name):
                self.assertEqual(found(stem, name).__module__, "leasewatch." + stem)
                self.assertEqual(found(stem, name).__name__, name)

    def test_each_method_stands_in_its_class_with_its_arguments(self):
        for (stem, name), methods in METHODS.items():
            held = vars(found(stem, name))
            for method, parameters in methods.items():
                with self.subTest(name=name, method=method):
                    self.assertIn(method, held)
                    self.assertEqual(str(inspect.signature(held[method])), parameters)

    def test_each_name_is_called_with_its_arguments(self):
        for (stem, name), parameters in CALLED.items():
            with self.subTest(name=name):
                self.assertEqual(str(inspect.signature(found(stem, name))), parameters)


class Sources(unittest.TestCase):
    def test_the_folder_holds_python_files_only(self):
        for name, _ in sources():
            self.assertTrue(name.endswith(".py"), name)

    def test_no_clock_no_chance_no_files(self):
        for name, text in sources():
            for node in ast.walk(ast.parse(text)):
                with self.subTest(name=name):
                    self.assertNotIsInstance(node, ast.Import)
                    if isinstance(node, ast.ImportFrom):
                        self.assertEqual(node.level, 0)
                        self.assertIn(node.module.split(".")[0], USABLE + ["leasewatch"])
                    if isinstance(node, ast.Name):
                        self.assertNotIn(node.id, REACHING_OUT)

    def test_signs_and_sizes(self):
        for name, text in sources():
            with self.subTest(name=name):
                self.assertTrue(all(sign == "\n" or " " <= sign <= "~" for sign in text))
                self.assertLessEqual(len(text.splitlines()), 399)
                self.assertLessEqual(max(len(line) for line in text.splitlines()), 120)
                for node in ast.walk(ast.parse(text)):
                    if isinstance(node, ast.FunctionDef):
                        self.assertLessEqual(node.end_lineno - node.lineno + 1, 40, node.name)


if __name__ == "__main__":
    unittest.main()
