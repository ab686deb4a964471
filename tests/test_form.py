"""The interface as DOC.md lists it, and rules of form that a script can see."""

import ast
import importlib
import inspect
import pathlib
import unittest

PACKAGE = pathlib.Path(__file__).resolve().parent.parent / "slotfitter"

FUNCTIONS = {
    "rows": {"is_name": ["thing"], "done": ["slots", "works", "row"]},
    "programs": {"checked": ["program"], "without": ["program", "places"], "reached": ["program"]},
    "runs": {"told": ["program", "start", "works", "road"], "blocks_on": ["program", "road"]},
    "needs": {"ahead": ["rows", "behind"], "needed": ["program"]},
    "cuts": {"kept": ["program"], "cut": ["program"]},
    "shows": {"road_to": ["program", "block"], "flow": ["program", "block", "slot"], "parting": ["program", "places"]},
    "texts": {"shown": ["program"], "read": ["text"]},
}
CLASSES = {
    "errors": ["FitError", "NoBlock", "TooMany", "NoName", "SignTwice", "NoWay", "NoPlace", "NoLine"],
}


def files():
    return sorted(PACKAGE.glob("*.py"))


def trees():
    return [(path.name, ast.parse(path.read_text(encoding="utf-8"))) for path in files()]


class InterfaceTest(unittest.TestCase):
    def test_each_function_is_defined_in_its_file_with_its_arguments(self):
        for module, functions in FUNCTIONS.items():
            for name, arguments in functions.items():
                function = getattr(importlib.import_module("slotfitter." + module), name)
                self.assertTrue(inspect.isfunction(function), name)
                self.assertEqual(function.__module__, "slotfitter." + module)
                self.assertEqual(list(inspect.signature(function).parameters), arguments)

    def test_each_class_is_defined_in_its_file(self):
        for module, names in CLASSES.items():
            for name in names:
                kind = getattr(importlib.import_module("slotfitter." + module), name)
                self.assertTrue(inspect.isclass(kind), name)
                self.assertEqual(kind.__module__, "slotfitter." + module)


class FormTest(unittest.TestCase):
    def test_the_folder_contains_files_of_python_alone(self):
        found = [path for path in PACKAGE.iterdir() if path.name != "__pycache__"]
        self.assertEqual(sorted(found), files())
        self.assertIn(PACKAGE / "__init__.py", found)

    def test_files_lines_and_signs(self):
        for path in files():
            lines = path.read_text(encoding="utf-8").split("\n")
            self.assertLess(len(lines), 400, path.name)
            for line in lines:
                self.assertLessEqual(len(line), 120, path.name)
                self.assertTrue(all(" " <= sign <= "~" for sign in line), (path.name, line))

    def test_functions_have_at_most_40_lines(self):
        for name, tree in trees():
            for node in ast.walk(tree):
                if isinstance(node, ast.FunctionDef):
                    self.assertLessEqual(node.end_lineno - node.lineno + 1, 40, (name, node.name))

    def test_imports_are_from_the_file_that_defines_the_name(self):
        for name, tree in trees():
            for node in ast.walk(tree):
                self.assertNotIsInstance(node, ast.Import, name)
                if isinstance(node, ast.ImportFrom):
                    self.assertEqual((node.level, node.module.split(".")[0]), (0, "slotfitter"), name)
                    module = importlib.import_module(node.module)
                    for alias in node.names:
                        self.assertEqual(getattr(module, alias.name).__module__, node.module)


if __name__ == "__main__":
    unittest.main()
