"""The section heldcalls/errors.py of the interface."""

import unittest

from heldcalls import errors
from heldcalls.library import Library

LINE_ERRORS = ("BadForm", "Misplaced", "Duplicate", "Unknown", "NotNested", "TooMany", "TooLong")

FIELDS = {
    "NoName": ("name",),
    "Repeated": ("name",),
    "Overfull": (),
    "WrongMove": ("move",),
    "BadRun": ("at",),
    "NoThread": ("thread",),
    "MustWait": ("lock", "blocker"),
    "Refused": ("at",),
    "Deadlocked": ("cycle",),
    "NoRequest": ("request",),
    "NoContext": ("context",),
    "NoRunCycle": (),
    "Clash": ("cycle",),
    "NoLockOrder": ("cycle",),
}


class TestErrors(unittest.TestCase):
    def test_base_classes(self):
        self.assertEqual(errors.HeldError.__bases__, (ValueError,))
        self.assertEqual(errors.LineError.__bases__, (errors.HeldError,))
        for name in LINE_ERRORS:
            self.assertEqual(getattr(errors, name).__bases__, (errors.LineError,), name)
        for name in FIELDS:
            self.assertEqual(getattr(errors, name).__bases__, (errors.HeldError,), name)

    def test_there_are_no_other_error_classes(self):
        named = {name for name, thing in vars(errors).items() if isinstance(thing, type)}
        self.assertEqual(named, {"HeldError", "LineError", *LINE_ERRORS, *FIELDS})

    def test_field_of_line_errors(self):
        for name in ("LineError", *LINE_ERRORS):
            with self.subTest(name=name):
                self.assertEqual(vars(getattr(errors, name)(7)), {"number": 7})
                self.assertEqual(vars(getattr(errors, name)(number=7)), {"number": 7})

    def test_fields_by_position_and_by_name(self):
        for name, fields in FIELDS.items():
            with self.subTest(name=name):
                given = {field: ("told", field) for field in fields}
                self.assertEqual(vars(getattr(errors, name)(*given.values())), given)
                self.assertEqual(vars(getattr(errors, name)(**given)), given)

    def test_created_bare(self):
        for error in (errors.HeldError(), errors.Overfull(), errors.NoRunCycle()):
            self.assertIsInstance(error, errors.HeldError)

    def test_line_errors_are_caught_by_their_base_classes(self):
        for base in (errors.LineError, errors.HeldError, ValueError):
            with self.assertRaises(base):
                Library.read("lock")
