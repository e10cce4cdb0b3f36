"""The interface as the document lists it, and the plain form of the package's files."""

import ast
import importlib
import inspect
import pathlib
import unittest

PACKAGE = pathlib.Path(__file__).resolve().parent.parent / "emberlane"

FUNCTIONS = {
    "nets": {
        "is_net": "(thing)",
        "are_kindlings": "(net, thing)",
        "way_of": "(net, lamp)",
        "rings": "(net)",
        "lap_of": "(net, lamp)",
    },
    "alone": {
        "place_alone": "(net, kindling, beat)",
        "lights_alone": "(net, kindling, lamp)",
        "gap_of": "(net, one, other)",
    },
    "fates": {
        "fates": "(net, kindlings)",
        "losses": "(net, kindlings)",
        "burning_at": "(net, kindlings, beat)",
        "lightings": "(net, kindlings, lamp, first, *, count=10)",
        "losses_hold": "(net, kindlings, paper)",
    },
    "robbers": {
        "robbed": "(net, kindlings)",
        "root_of": "(net, kindlings, flame)",
        "idle": "(net, kindlings)",
        "without": "(net, kindlings, flames)",
        "lasting": "(net, kindlings)",
    },
    "rests": {
        "rest_of": "(net, kindlings)",
        "round_of_lamps": "(net, kindlings)",
        "gaps": "(net, kindlings, lamp)",
        "burns_from": "(net, kindlings, lamp)",
        "can_burn": "(net, lamp)",
        "keepers": "(net, lamp, beat)",
    },
    "rooms": {
        "first_room": "(net, kindlings, lamp, beat)",
        "rooms": "(net, kindlings, lamp)",
        "more": "(net, kindlings, lamp)",
        "settings": "(net, lamp, flames)",
        "setting": "(net, lamp, flames, number)",
    },
    "parts": {
        "parted": "(net, lamp, part)",
        "together": "(net, lamp)",
        "none_lost_at": "(net, kindlings, lamp)",
    },
    "texts": {
        "show_net": "(net)",
        "show_kindlings": "(net, kindlings)",
        "show_happened": "(rows)",
        "read_story": "(text)",
    },
}

METHODS = {
    ("embers", "Embers"): {
        "__init__": "(self, net)",
        "kindle": "(self, lamp)",
        "go": "(self, *, beats=1)",
        "coming": "(self)",
        "burning": "(self)",
        "happened": "(self)",
    },
}


def module_named(name):
    return importlib.import_module("emberlane." + name)


class InterfaceTest(unittest.TestCase):
    def test_functions(self):
        for file, functions in FUNCTIONS.items():
            for name, parameters in functions.items():
                with self.subTest(name):
                    function = getattr(module_named(file), name)
                    self.assertEqual(function.__module__, "emberlane." + file)
                    self.assertEqual(str(inspect.signature(function)), parameters)

    def test_classes_and_their_methods(self):
        for (file, name), methods in METHODS.items():
            kind = getattr(module_named(file), name)
            self.assertEqual(kind.__module__, "emberlane." + file)
            for method, parameters in methods.items():
                with self.subTest(method):
                    self.assertIn(method, vars(kind))
                    self.assertEqual(str(inspect.signature(vars(kind)[method])), parameters)


class FilesTest(unittest.TestCase):
    def files(self):
        return sorted(path for path in PACKAGE.rglob("*") if path.is_file() and "__pycache__" not in path.parts)

    def test_only_python_files(self):
        self.assertIn(PACKAGE / "__init__.py", self.files())
        for path in self.files():
            self.assertEqual(path.suffix, ".py")

    def test_rows_and_signs(self):
        for path in self.files():
            text = path.read_text(encoding="utf-8")
            with self.subTest(path.name):
                self.assertTrue(all(sign == "\n" or " " <= sign <= "~" for sign in text))
                rows = text.split("\n")
                self.assertLessEqual(len(rows), 399)
                self.assertLessEqual(max(len(row) for row in rows), 120)

    def test_functions_are_small(self):
        for path in self.files():
            for node in ast.walk(ast.parse(path.read_text(encoding="utf-8"))):
                if isinstance(node, ast.FunctionDef):
                    with self.subTest(node.name):
                        self.assertLessEqual(node.end_lineno - node.lineno + 1, 40)

    def test_imports_are_of_the_package_or_of_the_few_that_are_allowed(self):
        for path in self.files():
            for node in ast.walk(ast.parse(path.read_text(encoding="utf-8"))):
                self.assertNotIsInstance(node, ast.Import)
                if isinstance(node, ast.ImportFrom):
                    self.assertEqual(node.level, 0)
                    head = node.module.split(".")[0]
                    self.assertIn(head, ("emberlane", "heapq", "math", "itertools", "collections"))


if __name__ == "__main__":
    unittest.main()
