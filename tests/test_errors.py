"""The errors: their names, base classes and attributes."""

import unittest

from fuelshare import errors

ATTRIBUTES = {
    "SyntaxFault": ["line", "column"],
    "CheckFault": ["reason", "line", "column"],
    "InvalidArguments": [],
    "InvalidCells": [],
    "InvalidFuel": [],
    "InvalidShare": [],
    "Endless": [],
    "InvalidLimit": [],
    "InvalidCode": ["offset"],
    "NoProcess": [],
    "InvalidSteps": [],
    "InvalidName": [],
    "UnknownName": [],
    "InvalidOperation": ["position"],
    "InvalidSession": ["line"],
}


class Errors(unittest.TestCase):
    def test_the_base_class_is_a_value_error(self):
        self.assertEqual(errors.FuelError.__bases__, (ValueError,))
        self.assertEqual(errors.FuelError.__module__, "fuelshare.errors")

    def test_each_error_is_a_direct_subclass(self):
        for name in ATTRIBUTES:
            with self.subTest(name):
                error = getattr(errors, name)
                self.assertEqual(error.__bases__, (errors.FuelError,))
                self.assertEqual(error.__module__, "fuelshare.errors")
                self.assertEqual(error.__name__, name)

    def test_there_are_no_other_errors(self):
        names = [name for name, value in vars(errors).items() if isinstance(value, type)]
        self.assertEqual(sorted(names), sorted(list(ATTRIBUTES) + ["FuelError"]))

    def test_attributes_are_set_when_an_error_is_created(self):
        for name, attributes in ATTRIBUTES.items():
            with self.subTest(name):
                values = [at + 3 for at in range(len(attributes))]
                error = getattr(errors, name)(*values)
                self.assertEqual(vars(error), dict(zip(attributes, values)))

    def test_attributes_may_be_named(self):
        for name, attributes in ATTRIBUTES.items():
            with self.subTest(name):
                values = {attribute: at for at, attribute in enumerate(attributes)}
                self.assertEqual(vars(getattr(errors, name)(**values)), values)

    def test_messages_tell_the_attributes(self):
        self.assertIn("3", str(errors.SyntaxFault(3, 14)))
        self.assertIn("14", str(errors.SyntaxFault(3, 14)))
        self.assertIn("share", str(errors.CheckFault("share", 3, 14)))


if __name__ == "__main__":
    unittest.main()
