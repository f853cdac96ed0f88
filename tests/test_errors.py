"""bigcorners.errors: every class, its base and its fields."""

import unittest

from bigcorners import errors
from tests.things import odd_things

FIELDS = {
    "BadChart": "part", "NoEnd": None, "NoArrow": None, "NoPicture": None, "Tangled": "place", "NoTable": None,
    "NoNumber": None, "NoDealing": None, "BadText": "line", "NoSketch": None, "BadBook": "part", "NoRoutine": None,
    "NoPlace": None, "NoContents": None, "NotRunning": None, "NothingDone": None, "NoBreak": None, "NotOneRim": None,
    "NoPrice": None, "Full": None, "Apart": None, "NoLine": None, "NoName": "name", "NoRunner": None,
}


class ErrorsTest(unittest.TestCase):
    def test_base_of_all(self):
        self.assertEqual(errors.ChartError.__bases__, (ValueError,))
        self.assertEqual(errors.ChartError.__module__, "bigcorners.errors")

    def test_each_derives_directly(self):
        for name in FIELDS:
            error = getattr(errors, name)
            self.assertEqual(error.__bases__, (errors.ChartError,), name)
            self.assertEqual((error.__module__, error.__name__), ("bigcorners.errors", name))

    def test_there_are_no_others(self):
        found = [name for name, value in vars(errors).items() if isinstance(value, type)]
        self.assertEqual(sorted(found), sorted(list(FIELDS) + ["ChartError"]))

    def test_fields_are_kept_as_passed(self):
        things = odd_things() + [0, -1, 1.5, 2j, {1}, frozenset(), ("arrow", 3), ()]
        for name, field in FIELDS.items():
            for thing in things if field else ():
                error = getattr(errors, name)(thing)
                self.assertIs(getattr(error, field), thing)
                self.assertEqual(list(vars(error)), [field])

    def test_no_other_fields(self):
        for name, field in FIELDS.items():
            if field is None:
                self.assertEqual(vars(getattr(errors, name)()), {})

    def test_made_with_just_these(self):
        for name, field in FIELDS.items():
            error = getattr(errors, name)
            with self.assertRaises(TypeError):
                error(*([0] if field is None else [0, 0]))
            if field:
                with self.assertRaises(TypeError):
                    error()

    def test_raised_and_caught(self):
        for name, field in FIELDS.items():
            with self.assertRaises(errors.ChartError):
                raise getattr(errors, name)(*([] if field is None else [("x",)]))
            with self.assertRaises(ValueError):
                raise getattr(errors, name)(*([] if field is None else [None]))
