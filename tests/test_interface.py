"""[Z3]: the package has what the interface lists, under its names and in its files."""

import ast
import importlib
import inspect
import pathlib
import unittest

PACKAGE = pathlib.Path(__file__).resolve().parent.parent / "echofields"

FUNCTIONS = {
    "forms": {
        "is_form": ["value"], "form_error": ["value"], "fillings": ["form"], "is_filling": ["form", "value"],
        "is_edit": ["form", "value"], "wish": ["form", "filling", "link"], "loud_links": ["form", "filling"],
        "is_calm": ["form", "filling"], "field_ring": ["form"], "ring_holds": ["form", "value"],
    },
}


def defined_in(name):
    """Return the names of the functions and classes that stand at the top of a file."""
    tree = ast.parse((PACKAGE / f"{name}.py").read_text())
    return [node.name for node in tree.body if isinstance(node, (ast.FunctionDef, ast.ClassDef))]


class InterfaceTest(unittest.TestCase):
    def test_the_package_has_an_init_file(self):
        self.assertTrue((PACKAGE / "__init__.py").is_file())
        self.assertEqual(importlib.import_module("echofields").__file__, str(PACKAGE / "__init__.py"))

    def test_functions_are_defined_in_their_files(self):
        for module, functions in FUNCTIONS.items():
            for name in functions:
                with self.subTest(module=module, name=name):
                    self.assertEqual(defined_in(module).count(name), 1)

    def test_functions_take_their_parameters_by_position(self):
        for module, functions in FUNCTIONS.items():
            for name, expected in functions.items():
                with self.subTest(module=module, name=name):
                    function = getattr(importlib.import_module(f"echofields.{module}"), name)
                    parameters = inspect.signature(function).parameters.values()
                    self.assertEqual([parameter.name for parameter in parameters], expected)
                    self.assertEqual({parameter.kind for parameter in parameters},
                                     {inspect.Parameter.POSITIONAL_OR_KEYWORD})


if __name__ == "__main__":
    unittest.main()
