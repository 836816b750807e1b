"""The interface's section copyarms/errors.py."""

import unittest

from copyarms import errors

ATTRIBUTES = {
    "InvalidSpot": (), "InvalidTurn": (), "InvalidTimes": (), "TooFew": (),
    "InvalidStroke": ("index",), "OpenStroke": (), "InvalidReach": (),
    "OutOfReach": ("arm", "stroke", "part"), "TooMany": (), "InvalidSize": (), "InvalidBox": (),
    "Contradiction": (), "BadText": ("row", "word"), "BadRow": ("row", "reason"),
    "UnknownName": (), "InvalidName": (), "InvalidCode": ("place",), "UnknownArm": (),
    "NotFree": (), "InvalidOperation": ("place",),
}


class ErrorClasses(unittest.TestCase):
    def test_the_base_class_is_a_value_error(self):
        self.assertEqual(errors.CopyError.__bases__, (ValueError,))

    def test_all_others_are_direct_subclasses_of_it(self):
        for name in ATTRIBUTES:
            self.assertEqual(getattr(errors, name).__bases__, (errors.CopyError,), name)

    def test_there_are_no_others(self):
        found = [name for name, value in vars(errors).items() if isinstance(value, type)]
        self.assertEqual(sorted(found), sorted([*ATTRIBUTES, "CopyError"]))

    def test_the_attributes_are_set_when_an_error_is_created(self):
        for name, attributes in ATTRIBUTES.items():
            values = [f"value {at}" for at in range(len(attributes))]
            by_place = getattr(errors, name)(*values)
            by_name = getattr(errors, name)(**dict(zip(attributes, values)))
            for attribute, value in zip(attributes, values):
                self.assertEqual(getattr(by_place, attribute), value, name)
                self.assertEqual(getattr(by_name, attribute), value, name)
