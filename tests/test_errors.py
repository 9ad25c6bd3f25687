"""[Z1]: the errors, their base and what they keep."""

import unittest

from echofields import errors
from tests.samples import ANY_VALUES

FIELDS = {
    "BadBatch": (), "BadEdit": ("given",), "BadEdits": ("number",), "BadFields": ("given",),
    "BadFilling": ("given",), "BadForm": ("error",), "BadLink": ("error",), "BadLinks": ("given",),
    "BadMoment": ("given",), "BadOrder": ("number",), "BadText": ("given",), "Busy": (),
    "Endless": ("order", "ring"), "GoesOn": ("begun", "edit"), "NoField": ("given",), "NoGuard": ("given",),
    "NoItem": ("given",), "NoLink": ("given",), "NoNumber": ("given",), "NoRule": ("given",),
    "NothingToUndo": (), "NoTruth": ("given",), "NoValue": ("given",), "NoVersion": ("given",),
    "NoWay": ("given",), "Rejected": ("index",), "TooMany": ("limit",), "TooManyChanges": (),
    "TooManyMoments": (), "UnlikeForms": (), "Unsettled": ("begun", "edit"),
}


class ErrorsTest(unittest.TestCase):
    def test_field_error_is_a_value_error(self):
        self.assertEqual(errors.FieldError.__bases__, (ValueError,))

    def test_each_error_has_field_error_as_its_one_base(self):
        for name in FIELDS:
            with self.subTest(name=name):
                self.assertEqual(getattr(errors, name).__bases__, (errors.FieldError,))

    def test_there_are_no_other_errors(self):
        found = {name for name, value in vars(errors).items() if isinstance(value, type)}
        self.assertEqual(found, set(FIELDS) | {"FieldError"})

    def test_errors_are_defined_here(self):
        for name in list(FIELDS) + ["FieldError"]:
            with self.subTest(name=name):
                self.assertEqual(getattr(errors, name).__module__, "echofields.errors")
                self.assertEqual(getattr(errors, name).__name__, name)

    def test_fields_are_kept_in_their_order(self):
        for name, fields in FIELDS.items():
            with self.subTest(name=name):
                passed = [[place] for place in range(len(fields))]
                error = getattr(errors, name)(*passed)
                self.assertEqual(set(vars(error)), set(fields))
                for field, value in zip(fields, passed):
                    self.assertIs(getattr(error, field), value)

    def test_any_values_are_kept_as_the_very_objects(self):
        for name, fields in FIELDS.items():
            for value in ANY_VALUES:
                error = getattr(errors, name)(*[value for _ in fields])
                for field in fields:
                    self.assertIs(getattr(error, field), value)

    def test_what_was_passed_is_not_changed(self):
        passed = [0, {"a": [1]}]
        errors.BadFilling(passed)
        errors.Endless(passed, passed)
        self.assertEqual(passed, [0, {"a": [1]}])

    def test_errors_are_caught_by_their_own_name_and_by_both_bases(self):
        for name, fields in FIELDS.items():
            cls = getattr(errors, name)
            for caught in (cls, errors.FieldError, ValueError):
                with self.subTest(name=name, caught=caught.__name__):
                    with self.assertRaises(caught) as context:
                        raise cls(*fields)
                    self.assertIs(context.exception.__class__, cls)


if __name__ == "__main__":
    unittest.main()
