"""What holds for all files of the package at once."""

import ast
import doctest
import inspect
import unittest
from importlib import import_module
from pathlib import Path

PACKAGE = Path(__file__).resolve().parent.parent / "colormatch"
README = PACKAGE.parent / "README.md"

# The interface: names and their arguments.
INTERFACE = {
    "quotients": {
        "Quotient": ["top", "bottom"], "whole": ["number"], "zero": [], "one": [], "total": ["quotients"],
        "is_quotient": ["value"],
    },
    "vectors": {
        "black": [], "det": ["first", "second", "third"], "scaled": ["factor", "vector"],
        "added": ["first", "second"], "taken": ["first", "second"], "sum_of": ["vectors"],
    },
    "observers": {
        "Observer": ["bands"], "View": ["observer", "lamp"], "color_of": ["view", "reflectance"],
        "is_match": ["view", "first", "second"],
    },
    "reflectances": {
        "parse_reflectance": ["text"], "format_reflectance": ["reflectance"], "filtered": ["first", "second"],
        "crossings": ["first", "second"], "band_pattern": ["reflectance"],
    },
    "lights": {
        "chromaticity": ["color"], "mix": ["colors", "amounts"], "mixture": ["primaries", "color"],
        "decompose": ["observer", "white", "color"],
    },
    "palettes": {"nearest_color": ["palette", "color"], "diffuse": ["palette", "colors"]},
    "matches": {"matching_lamp": ["observer", "first", "second"], "other_match": ["view", "reflectance"]},
    "solid": {
        "low": ["view", "first", "second"], "high": ["view", "first", "second"], "surface_test": ["view", "color"],
        "brightest": ["view", "color"], "surface_of": ["view", "color"],
    },
    "ranges": {"band_range": ["view", "color", "band"], "least_reflectance": ["view", "color"]},
    "papers": {
        "judge_surface": ["view", "color", "paper"], "judge_only": ["view", "reflectance", "paper"],
        "judge_bright": ["view", "color", "paper"], "judge_lamp": ["observer", "first", "second", "paper"],
        "judge_end": ["view", "color", "band", "end", "paper"], "explain_surface": ["view", "color"],
        "explain_only": ["view", "reflectance"], "explain_bright": ["view", "color"],
        "explain_lamp": ["observer", "first", "second"], "explain_end": ["view", "color", "band", "end"],
    },
    "bench": {"Bench": ["view"]},
    "errors": {"Irregular": ["triple"], "TextFault": ["place"]},
}
# The methods that each class must define itself.
METHODS = {
    ("quotients", "Quotient"): [
        "__init__", "__add__", "__sub__", "__mul__", "__neg__", "__eq__", "__lt__", "__le__", "__str__", "over",
    ],
    ("observers", "Observer"): ["__init__", "__len__"],
    ("observers", "View"): ["__init__", "__len__"],
    ("bench", "Bench"): [
        "__init__", "__len__", "__iter__", "change_count", "add_sample", "add_filter", "remove_filter", "set_lamp",
        "undo", "colors", "groups", "add_samples", "tried", "foresee",
    ],
}
ARGUMENTS_OF_BENCHES = {
    "add_sample": ["reflectance"], "add_filter": ["reflectance"], "remove_filter": [], "set_lamp": ["lamp"],
    "undo": [], "colors": [], "groups": [], "add_samples": ["most", "values"], "tried": [], "foresee": ["values"],
}
ERRORS = (
    "ColorError", "Irregular", "TextFault", "BadQuotient", "BadObserver", "BadLamp", "BadReflectance",
    "LengthsDiffer", "Dependent", "WhiteOutside", "IsBlack", "TooMany", "NoFilter",
)


def trees():
    for path in sorted(PACKAGE.rglob("*.py")):
        yield path.name, ast.parse(path.read_text(encoding="utf-8"))


def defined_names(module):
    tree = ast.parse((PACKAGE / f"{module}.py").read_text(encoding="utf-8"))
    return [part.name for part in tree.body if isinstance(part, (ast.FunctionDef, ast.ClassDef))]


class Interface(unittest.TestCase):
    def test_names_are_defined_in_their_files(self):
        for module, names in INTERFACE.items():
            for name in names:
                with self.subTest(module=module, name=name):
                    self.assertIn(name, defined_names(module))
        for name in ERRORS:
            with self.subTest(name):
                self.assertIn(name, defined_names("errors"))

    def test_arguments(self):
        for module, names in INTERFACE.items():
            for name, arguments in names.items():
                with self.subTest(module=module, name=name):
                    found = getattr(import_module(f"colormatch.{module}"), name)
                    self.assertEqual(list(inspect.signature(found).parameters), arguments)

    def test_arguments_of_benches(self):
        found = import_module("colormatch.bench").Bench
        for name, arguments in ARGUMENTS_OF_BENCHES.items():
            with self.subTest(name):
                self.assertEqual(list(inspect.signature(getattr(found, name)).parameters), ["self"] + arguments)

    def test_methods_are_defined_in_their_classes(self):
        for (module, name), methods in METHODS.items():
            found = getattr(import_module(f"colormatch.{module}"), name)
            for method in methods:
                with self.subTest(name=name, method=method):
                    self.assertIn(method, vars(found))


class Readme(unittest.TestCase):
    def test_examples(self):
        block = README.read_text(encoding="utf-8").split("```\n")[1]
        examples = doctest.DocTestParser().get_doctest(block, {}, "README.md", None, 0)
        self.assertGreater(len(examples.examples), 20)
        told = []
        results = doctest.DocTestRunner(verbose=False).run(examples, out=told.append)
        self.assertEqual(results.failed, 0, "".join(told))


class NoOutside(unittest.TestCase):
    """The program uses no clock, no random numbers and no files."""

    def test_imports(self):
        for name, tree in trees():
            for node in ast.walk(tree):
                with self.subTest(name):
                    self.assertNotIsInstance(node, ast.Import)
                    if isinstance(node, ast.ImportFrom):
                        self.assertEqual(node.level, 0)
                        self.assertIn(node.module.split(".")[0], ("colormatch", "math"))

    def test_names(self):
        barred = {"open", "input", "print", "exec", "eval", "compile", "hash", "id", "globals", "breakpoint"}
        for name, tree in trees():
            used = {node.id for node in ast.walk(tree) if isinstance(node, ast.Name)}
            with self.subTest(name):
                self.assertEqual(used & barred, set())
                self.assertEqual({word for word in used if word.startswith("__")}, set())


if __name__ == "__main__":
    unittest.main()
