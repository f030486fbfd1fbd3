"""The interface's names and homes, and the form of the package's files."""

import ast
import importlib
import inspect
import pathlib
import unittest

PACKAGE = pathlib.Path(__file__).resolve().parent.parent / "safeturn"

# What the interface lists: functions with their parameters.
FUNCTIONS = {
    "terms": {"names_in": ["term"], "worth": ["term", "cells"]},
    "rows": {
        "reads": ["row"],
        "sets": ["row"],
        "first_read": ["rows"],
        "surely_set": ["rows"],
        "tells": ["program", "row"],
    },
    "runs": {"run": ["program", "inputs"]},
    "places": {"row_at": ["program", "place"], "needed": ["program", "place"]},
    "turns": {
        "renamed": ["program", "number", "old", "new"],
        "swapped": ["program", "place"],
    },
    "puts": {
        "put": ["program", "place"],
        "folded": ["program", "place", "many", "row", "at", "function"],
        "drawn": ["program", "place", "many", "name"],
    },
}
CLASSES = {
    "errors": ["TurnError", "NoPlace", "NoName", "Taken", "NoCall", "Unlike", "Clash"],
}


def sources():
    return sorted(path for path in PACKAGE.rglob("*.py"))


def imports_of(path):
    for node in ast.walk(ast.parse(path.read_text(encoding="ascii"))):
        if isinstance(node, ast.Import):
            for alias in node.names:
                yield alias.name
        if isinstance(node, ast.ImportFrom):
            yield "." * node.level + (node.module or "")


class TestInterface(unittest.TestCase):
    def test_functions_stand_in_their_file_with_their_parameters(self):
        for file, listed in FUNCTIONS.items():
            module = importlib.import_module("safeturn." + file)
            for name, parameters in listed.items():
                function = getattr(module, name)
                self.assertEqual(function.__module__, "safeturn." + file, name)
                self.assertEqual(list(inspect.signature(function).parameters), parameters, name)

    def test_classes_stand_in_their_file(self):
        for file, listed in CLASSES.items():
            module = importlib.import_module("safeturn." + file)
            for name in listed:
                found = getattr(module, name)
                self.assertTrue(inspect.isclass(found), name)
                self.assertEqual(found.__module__, "safeturn." + file, name)


class TestForm(unittest.TestCase):
    def test_only_the_package_itself_is_imported(self):
        """Without an import there is no clock, no chance and no file but by a builtin."""
        for path in sources():
            for imported in imports_of(path):
                self.assertTrue(imported.startswith("safeturn."), (path.name, imported))

    def test_no_builtin_that_reaches_outside_is_named(self):
        for path in sources():
            for node in ast.walk(ast.parse(path.read_text(encoding="ascii"))):
                if isinstance(node, ast.Name):
                    self.assertNotIn(node.id, ("open", "input", "print", "exec", "eval", "hash", "id"))

    def test_sizes_and_characters(self):
        for path in sources():
            text = path.read_text(encoding="ascii")
            self.assertTrue(all(sign == "\n" or " " <= sign <= "~" for sign in text), path.name)
            self.assertLess(len(text.splitlines()), 400, path.name)
            self.assertLessEqual(max(map(len, text.splitlines())), 120, path.name)

    def test_functions_have_at_most_forty_lines(self):
        for path in sources():
            for node in ast.walk(ast.parse(path.read_text(encoding="ascii"))):
                if isinstance(node, ast.FunctionDef):
                    self.assertLessEqual(node.end_lineno - node.lineno + 1, 40, node.name)

    def test_the_folder_holds_nothing_else(self):
        for path in PACKAGE.rglob("*"):
            if "__pycache__" not in path.parts and path.is_file():
                self.assertEqual(path.suffix, ".py", path.name)


if __name__ == "__main__":
    unittest.main()
