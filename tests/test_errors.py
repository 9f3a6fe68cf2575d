"""The errors of the interface."""

import unittest

from chasepost import errors

PLAIN = (
    "InvalidDay", "UnknownHouse", "UnknownOrder", "InvalidLimit", "InvalidOrder", "TooManyOrders", "TooLong",
    "InvalidResult", "Contradiction", "InvalidName", "UnknownName",
)
WITH_ATTRIBUTES = {
    "InvalidNet": ("part", "index"),
    "TextFault": ("line",),
    "InvalidCode": ("place",),
    "InvalidOperation": ("place",),
}


class ErrorsTest(unittest.TestCase):
    def test_base_class(self):
        self.assertEqual(errors.PostError.__bases__, (ValueError,))

    def test_all_others_are_direct_subclasses(self):
        for name in PLAIN + tuple(WITH_ATTRIBUTES):
            with self.subTest(name=name):
                self.assertEqual(getattr(errors, name).__bases__, (errors.PostError,))
                self.assertEqual(getattr(errors, name).__module__, "chasepost.errors")

    def test_there_are_no_more(self):
        found = {name for name, value in vars(errors).items() if isinstance(value, type)}
        self.assertEqual(found, {"PostError"} | set(PLAIN) | set(WITH_ATTRIBUTES))

    def test_attributes_are_set_when_created(self):
        for name, attributes in WITH_ATTRIBUTES.items():
            with self.subTest(name=name):
                values = ("orders", 7)[-len(attributes):]
                error = getattr(errors, name)(*values)
                self.assertEqual(tuple(getattr(error, attribute) for attribute in attributes), values)
                self.assertIsInstance(str(error), str)
                self.assertEqual(vars(getattr(errors, name)(**dict(zip(attributes, values)))), vars(error))
