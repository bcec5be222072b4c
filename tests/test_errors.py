"""[16]: the error classes, their bases and their attributes."""

import inspect
import unittest

from missedmarks import errors

# For each class its base and its attributes, in the order of the constructor.
CLASSES = {
    "NotJoined": (ValueError, ("reader",)),
    "BadPlace": (ValueError, ("place",)),
    "Unfit": (ValueError, ("time",)),
    "CannotBe": (ValueError, ()),
    "BadText": (ValueError, ("line",)),
    "BadLine": (ValueError, ("number",)),
    "NoCopy": (LookupError, ("copy",)),
    "NoPair": (LookupError, ("reader", "key")),
    "NoEvent": (LookupError, ("time",)),
    "NothingDone": (RuntimeError, ()),
}


class ErrorClasses(unittest.TestCase):
    def test_just_these_classes(self):
        found = [name for name, thing in vars(errors).items() if inspect.isclass(thing)]
        self.assertEqual(sorted(found), sorted(CLASSES))

    def test_bases(self):
        for name, (base, _) in CLASSES.items():
            self.assertEqual(getattr(errors, name).__bases__, (base,), name)
            self.assertEqual(getattr(errors, name).__module__, "missedmarks.errors")

    def test_attributes_by_position_and_by_name(self):
        values = [7, "a"]
        for name, (_, fields) in CLASSES.items():
            told = dict(zip(fields, values))
            for error in (getattr(errors, name)(*told.values()), getattr(errors, name)(**told)):
                self.assertEqual(vars(error), told, name)

    def test_they_can_be_raised_and_caught(self):
        for name, (base, fields) in CLASSES.items():
            with self.assertRaises(base) as caught:
                raise getattr(errors, name)(*[3, "b"][:len(fields)])
            self.assertIs(caught.exception.__class__, getattr(errors, name))
