"""[Z3]: the package has what the interface lists, under its names and in its files."""

import ast
import importlib
import inspect
import pathlib
import unittest

from echofields.benches import Bench, SafeBench
from echofields.fields import Fields
from echofields.shells import Shell

PACKAGE = pathlib.Path(__file__).resolve().parent.parent / "echofields"

ONE = ["form", "filling", "edit"]
RING = ["table", "old", "start"]

FUNCTIONS = {
    "forms": {
        "is_form": ["value"], "form_error": ["value"], "fillings": ["form"], "is_filling": ["form", "value"],
        "is_edit": ["form", "value"], "wish": ["form", "filling", "link"], "loud_links": ["form", "filling"],
        "is_calm": ["form", "filling"], "field_ring": ["form"], "ring_holds": ["form", "value"],
    },
    "runs": {
        "begin": ONE, "fire": ["form", "value", "link"], "is_moment": ["form", "value"],
        "moment_behind": ONE + ["order"], "walk_order": ONE + ["order"],
    },
    "texts": {
        "form_text": ["form"], "filling_text": ["filling"], "parse_form": ["value"], "parse_filling": ["form", "value"],
    },
    "reaches": {"beginnings": ["form", "*calm"], "reached": ["form", "*calm"], "reached_from": ONE},
    "endless": {"find_endless": ["form", "*calm"], "endless_holds": ["form", "value", "*calm"]},
    "parting": {"find_parting": ["form", "*calm"], "ends_of": ONE, "parting_holds": ["form", "value", "*calm"]},
    "echoes": {
        "find_uncalm": ["form", "*calm"], "find_overruled": ["form", "*calm"],
        "uncalm_holds": ["form", "value", "*calm"], "overruled_holds": ["form", "value", "*calm"],
    },
    "counting": {
        "shortest_order": ONE, "longest_order": ONE, "many_orders": ONE, "order_at": ONE + ["number"],
        "order_number": ONE + ["order"],
    },
    "rules": {
        "run_by": ONE + ["rule"], "walk_rule": ONE + ["rule"], "rules_part": ["form", "one", "other", "*calm"],
    },
    "telling": {
        "calm_fillings": ["form"], "find_telling": ["form", "fields", "field"], "tellers": ["form", "field"],
        "least_keys": ["form"], "least_differences": ["form"], "telling_holds": ["form", "fields", "field", "value"],
    },
    "settled": {
        "find_unsettled": ["form"], "led_to": ["form", "filling", "edits"], "find_row": ["form", "filling", "goal"],
        "rooms": ["form"], "row_holds": ["form", "filling", "goal", "value"], "find_swap": ["form", "edit", "other"],
        "find_stuck": ["form", "edit"],
    },
    "likeness": {
        "find_difference": ["one", "other"], "difference_holds": ["one", "other", "value"], "idle_links": ["form"],
        "idle_sets": ["form"],
    },
    "cures": {
        "treated": ["form", "way", "links"], "find_cures": ["form", "way"], "fewest_cure": ["form", "way"],
        "cures_hold": ["form", "way", "value"],
    },
    "rings": {
        "firings": RING + ["many", "*closed"], "endless_rule": RING, "count_endless": RING + ["limit"],
        "value_after": RING + ["many", "field", "times", "*closed"],
        "shares_after": RING + ["many", "times", "*closed"],
    },
}
DEFAULTS = {"calm": False, "closed": True}
GENERATORS = ("walk_order", "walk_rule")

SIGNS = {
    "__getitem__": ["at"], "__setitem__": ["at", "worth"], "__iadd__": ["other"], "__len__": [], "__contains__": ["x"],
    "__bool__": [], "__str__": [], "__eq__": ["other"], "__iter__": [],
}
METHODS = {
    Fields: SIGNS | {"__init__": ["form", "filling"], "refill": ["filling"], "copy": [], "__call__": ["edits"]},
    Bench: SIGNS | {
        "__init__": ["form"], "add": ["link"], "drop": ["index"], "replace": ["index", "link"], "guard": ["index", "guard"],
        "entry": ["index", "value", "item"], "undo": [], "attempt": ["batch", "*on_step"], "changes": [],
        "verdict_at": ["*version"], "form_at": ["*version"], "each_version": [], "copy": [], "set_calm": ["value"],
        "__isub__": ["other"],
    },
    SafeBench: {"__init__": ["form", "*calm"]},
    Shell: {"__init__": ["bench"], "execute": ["value"], "__call__": ["value"]},
}
# The properties of each class, and whether they can be set.
PROPERTIES = {
    Fields: {"form": False, "filling": True, "last": False}, Bench: {"calm": True}, SafeBench: {"evidence": False},
    Shell: {"last": False},
}
BASES = {Fields: object, Bench: object, SafeBench: Bench, Shell: object}
HOMES = {Fields: "fields", Bench: "benches", SafeBench: "benches", Shell: "shells"}


def defined_in(name):
    """Return the names of the functions and classes that stand at the top of a file."""
    tree = ast.parse((PACKAGE / f"{name}.py").read_text())
    return [node.name for node in tree.body if isinstance(node, (ast.FunctionDef, ast.ClassDef))]


class InterfaceTest(unittest.TestCase):
    def test_the_package_has_an_init_file(self):
        self.assertTrue((PACKAGE / "__init__.py").is_file())
        self.assertEqual(importlib.import_module("echofields").__file__, str(PACKAGE / "__init__.py"))

    def test_functions_are_defined_in_their_files(self):
        for module, functions in FUNCTIONS.items():
            for name in functions:
                with self.subTest(module=module, name=name):
                    self.assertEqual(defined_in(module).count(name), 1)

    def test_functions_take_their_parameters(self):
        for module, functions in FUNCTIONS.items():
            for name, expected in functions.items():
                with self.subTest(module=module, name=name):
                    function = getattr(importlib.import_module(f"echofields.{module}"), name)
                    parameters = list(inspect.signature(function).parameters.values())
                    self.assertEqual([told(parameter) for parameter in parameters], expected)
                    for parameter in parameters:
                        self.assertIs(parameter.default, DEFAULTS.get(parameter.name, parameter.empty))

    def test_generators(self):
        for module, functions in FUNCTIONS.items():
            for name in functions:
                function = getattr(importlib.import_module(f"echofields.{module}"), name)
                self.assertIs(inspect.isgeneratorfunction(function), name in GENERATORS)

    def test_classes_have_their_methods_themselves(self):
        for kind, methods in METHODS.items():
            self.assertEqual(defined_in(HOMES[kind]).count(kind.__name__), 1)
            self.assertEqual(kind.__bases__, (BASES[kind],))
            for name, expected in methods.items():
                with self.subTest(kind=kind.__name__, name=name):
                    parameters = list(inspect.signature(vars(kind)[name]).parameters.values())
                    self.assertEqual([told(parameter) for parameter in parameters][1:], expected)
                    for parameter in parameters:
                        default = {"version": None, "on_step": None, "calm": False}.get(parameter.name, parameter.empty)
                        self.assertIs(parameter.default, default)

    def test_each_version_alone_is_a_generator_among_the_methods(self):
        for kind, methods in METHODS.items():
            for name in methods:
                self.assertIs(inspect.isgeneratorfunction(vars(kind)[name]), name == "each_version")

    def test_classes_have_their_properties_themselves(self):
        for kind, properties in PROPERTIES.items():
            for name, can_be_set in properties.items():
                with self.subTest(kind=kind.__name__, name=name):
                    self.assertIs(vars(kind)[name].__class__, property)
                    self.assertIs(vars(kind)[name].fset is not None, can_be_set)
                    self.assertIs(vars(kind)[name].fdel, None)


def told(parameter):
    """Return the name of a parameter, with a star where it is passed by keyword."""
    assert parameter.kind in (parameter.POSITIONAL_OR_KEYWORD, parameter.KEYWORD_ONLY)
    return ("*" if parameter.kind == parameter.KEYWORD_ONLY else "") + parameter.name


if __name__ == "__main__":
    unittest.main()
