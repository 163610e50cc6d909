"""What holds for all files of the package at once."""

import ast
import inspect
import unittest
from importlib import import_module
from pathlib import Path

PACKAGE = Path(__file__).resolve().parent.parent / "colormatch"

# The interface of the stages that have landed: names and their arguments.
INTERFACE = {
    "quotients": {
        "Quotient": ["top", "bottom"], "whole": ["number"], "zero": [], "one": [], "total": ["quotients"],
        "is_quotient": ["value"],
    },
    "vectors": {
        "black": [], "det": ["first", "second", "third"], "scaled": ["factor", "vector"],
        "added": ["first", "second"], "taken": ["first", "second"], "sum_of": ["vectors"],
    },
    "observers": {
        "Observer": ["bands"], "View": ["observer", "lamp"], "color_of": ["view", "reflectance"],
        "is_match": ["view", "first", "second"],
    },
    "reflectances": {
        "parse_reflectance": ["text"], "format_reflectance": ["reflectance"], "filtered": ["first", "second"],
        "crossings": ["first", "second"], "band_pattern": ["reflectance"],
    },
    "lights": {
        "chromaticity": ["color"], "mix": ["colors", "amounts"], "mixture": ["primaries", "color"],
        "decompose": ["observer", "white", "color"],
    },
    "palettes": {"nearest_color": ["palette", "color"], "diffuse": ["palette", "colors"]},
    "matches": {"matching_lamp": ["observer", "first", "second"], "other_match": ["view", "reflectance"]},
    "errors": {"Irregular": ["triple"], "TextFault": ["place"]},
}
METHODS = {
    ("quotients", "Quotient"): [
        "__init__", "__add__", "__sub__", "__mul__", "__neg__", "__eq__", "__lt__", "__le__", "__str__", "over",
    ],
    ("observers", "Observer"): ["__init__", "__len__"],
    ("observers", "View"): ["__init__", "__len__"],
}
ERRORS = (
    "ColorError", "Irregular", "TextFault", "BadQuotient", "BadObserver", "BadLamp", "BadReflectance",
    "LengthsDiffer", "Dependent", "WhiteOutside", "IsBlack", "TooMany", "NoFilter",
)


def trees():
    for path in sorted(PACKAGE.rglob("*.py")):
        yield path.name, ast.parse(path.read_text(encoding="utf-8"))


def defined_names(module):
    tree = ast.parse((PACKAGE / f"{module}.py").read_text(encoding="utf-8"))
    return [part.name for part in tree.body if isinstance(part, (ast.FunctionDef, ast.ClassDef))]


class Interface(unittest.TestCase):
    def test_names_are_defined_in_their_files(self):
        for module, names in INTERFACE.items():
            for name in names:
                with self.subTest(module=module, name=name):
                    self.assertIn(name, defined_names(module))
        for name in ERRORS:
            with self.subTest(name):
                self.assertIn(name, defined_names("errors"))

    def test_arguments(self):
        for module, names in INTERFACE.items():
            for name, arguments in names.items():
                with self.subTest(module=module, name=name):
                    found = getattr(import_module(f"colormatch.{module}"), name)
                    self.assertEqual(list(inspect.signature(found).parameters), arguments)

    def test_methods_are_defined_in_their_classes(self):
        for (module, name), methods in METHODS.items():
            found = getattr(import_module(f"colormatch.{module}"), name)
            for method in methods:
                with self.subTest(name=name, method=method):
                    self.assertIn(method, vars(found))


class NoOutside(unittest.TestCase):
    """The program uses no clock, no random numbers and no files."""

    def test_imports(self):
        for name, tree in trees():
            for node in ast.walk(tree):
                with self.subTest(name):
                    self.assertNotIsInstance(node, ast.Import)
                    if isinstance(node, ast.ImportFrom):
                        self.assertEqual(node.level, 0)
                        self.assertIn(node.module.split(".")[0], ("colormatch", "math"))

    def test_names(self):
        barred = {"open", "input", "print", "exec", "eval", "compile", "hash", "id", "globals", "breakpoint"}
        for name, tree in trees():
            used = {node.id for node in ast.walk(tree) if isinstance(node, ast.Name)}
            with self.subTest(name):
                self.assertEqual(used & barred, set())
                self.assertEqual({word for word in used if word.startswith("__")}, set())


if __name__ == "__main__":
    unittest.main()
