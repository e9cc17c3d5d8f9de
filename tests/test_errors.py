"""All errors stand directly under ViewError, with their fields ([2] and the interface)."""

import inspect
import unittest

from viewloom import errors

FIELDS = {
    "InvalidSource": {"line": 3, "column": 4, "message": "unexpected end"},
    "InvalidProgram": {"component": "A", "message": "too large"},
    "Fault": {"message": "not a text"},
    "InvalidDocument": {"line": 1, "column": 2},
    "InvalidOperation": {"index": 2, "message": "no such kid"},
    "InvalidRecording": {"index": 0},
    "UnknownComponent": {"name": "A"},
    "UnknownParameter": {"name": "a"},
    "RenderingFailed": {"message": "not a text"},
}
PLAIN = ["InvalidValue", "UnknownLane", "UnknownKey", "AnswerGiven", "InvalidCall", "MissingAnswer", "RenderingHeld"]


class Errors(unittest.TestCase):
    def test_none_stands_under_another_one(self):
        for name in [*FIELDS, *PLAIN]:
            self.assertEqual(getattr(errors, name).__bases__, (errors.ViewError,), name)
        self.assertEqual(errors.ViewError.__bases__, (ValueError,))

    def test_there_are_no_others(self):
        classes = [name for name, _ in inspect.getmembers(errors, inspect.isclass)]
        self.assertEqual(sorted(classes), sorted([*FIELDS, *PLAIN, "ViewError"]))

    def test_fields(self):
        for name, fields in FIELDS.items():
            error = getattr(errors, name)(*fields.values())
            self.assertEqual(vars(error), fields, name)
            for value in fields.values():
                self.assertIn(str(value), str(error))

    def test_others_take_a_text(self):
        for name in PLAIN:
            self.assertEqual(str(getattr(errors, name)("so")), "so")
