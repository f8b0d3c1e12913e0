"""The interface: each name in its own file, with its arguments."""

import ast
import importlib
import inspect
import pathlib
import unittest

PACKAGE = pathlib.Path(__file__).resolve().parent.parent / "candleroom"

FUNCTIONS = {
    "plans": {
        "airs": ["house", "plan"],
        "cost": ["house", "plan"],
        "fault": ["house", "plan"],
    },
    "least": {
        "least": ["house"],
    },
    "papers": {
        "bound": ["house", "prices"],
        "lack": ["house", "places"],
        "shows_least": ["house", "plan", "whole", "prices"],
        "shows_short": ["house", "places"],
    },
    "mending": {
        "mended": ["house", "plan", "hour"],
    },
    "texts": {
        "written": ["house"],
        "read": ["text"],
    },
}

CLASSES = {
    "errors": {
        "AirError": {},
        "BadHouse": {},
        "BadPlan": {},
        "Broken": {},
        "NoPlan": {},
        "BadText": {},
    },
    "houses": {
        "House": {
            "__init__": ["self", "hours", "rooms", "doors", "stays"],
            "rooms": ["self"],
            "doors": ["self"],
            "stays": ["self"],
            "use": ["self", "room", "hour"],
            "least": ["self", "room", "hour"],
        },
    },
}


def arguments(function):
    return list(inspect.signature(function).parameters)


class InterfaceTest(unittest.TestCase):
    def test_each_function_is_defined_in_its_file(self):
        for file, functions in FUNCTIONS.items():
            module = importlib.import_module(f"candleroom.{file}")
            for name, names in functions.items():
                with self.subTest(name):
                    function = getattr(module, name)
                    self.assertTrue(inspect.isfunction(function))
                    self.assertEqual(function.__module__, module.__name__)
                    self.assertEqual(arguments(function), names)

    def test_each_class_is_defined_in_its_file_with_its_own_methods(self):
        for file, classes in CLASSES.items():
            module = importlib.import_module(f"candleroom.{file}")
            for name, methods in classes.items():
                kind = getattr(module, name)
                with self.subTest(name):
                    self.assertTrue(inspect.isclass(kind))
                    self.assertEqual(kind.__module__, module.__name__)
                for method, names in methods.items():
                    with self.subTest(name, method=method):
                        self.assertEqual(arguments(vars(kind)[method]), names)


class FormTest(unittest.TestCase):
    def files(self):
        return [path for path in sorted(PACKAGE.rglob("*")) if "__pycache__" not in path.parts]

    def test_the_package_is_python_files_alone(self):
        for path in self.files():
            with self.subTest(path.name):
                self.assertEqual(path.suffix, ".py")

    def test_files_and_functions_are_short_and_plain(self):
        for path in self.files():
            text = path.read_text(encoding="utf-8")
            rows = text.split("\n")
            with self.subTest(path.name):
                self.assertLessEqual(len(rows), 399)
                self.assertLessEqual(max(len(row) for row in rows), 120)
                self.assertTrue(all(" " <= sign <= "~" or sign == "\n" for sign in text))
            for node in ast.walk(ast.parse(text)):
                if isinstance(node, ast.FunctionDef):
                    with self.subTest(path.name, function=node.name):
                        self.assertLessEqual(node.end_lineno - node.lineno + 1, 40)

    def test_imports_are_of_the_package_alone(self):
        for path in self.files():
            for node in ast.walk(ast.parse(path.read_text(encoding="utf-8"))):
                with self.subTest(path.name):
                    self.assertNotIsInstance(node, ast.Import)
                    if isinstance(node, ast.ImportFrom):
                        self.assertEqual(node.level, 0)
                        self.assertTrue(node.module.startswith("candleroom."))

    def test_no_clock_no_chance_and_no_file_is_asked(self):
        # Without imports these are left, and the builtins that reach outside.
        barred = {"open", "input", "print", "exec", "eval", "compile", "id", "hash", "__import__"}
        for path in self.files():
            for node in ast.walk(ast.parse(path.read_text(encoding="utf-8"))):
                if isinstance(node, ast.Name):
                    with self.subTest(path.name, line=node.lineno):
                        self.assertNotIn(node.id, barred)

    def test_no_function_assigns_a_module_level_name(self):
        for path in self.files():
            for node in ast.walk(ast.parse(path.read_text(encoding="utf-8"))):
                with self.subTest(path.name):
                    self.assertNotIsInstance(node, ast.Global)


if __name__ == "__main__":
    unittest.main()
