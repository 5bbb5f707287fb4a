"""The interface: the exceptions and their base classes."""

import unittest

from fieldoffers import errors


class Exceptions(unittest.TestCase):
    def test_field_error_is_a_value_error(self):
        self.assertEqual(errors.FieldError.__bases__, (ValueError,))

    def test_others_are_direct_subclasses(self):
        names = [
            "BadWay", "BadWords", "BadKeys", "BadViews", "BadNumber", "BadText", "NotFound",
        ]
        for name in names:
            with self.subTest(name=name):
                self.assertEqual(getattr(errors, name).__bases__, (errors.FieldError,))

    def test_all_are_defined_there(self):
        for name in dir(errors):
            if not name.startswith("_"):
                with self.subTest(name=name):
                    self.assertEqual(getattr(errors, name).__module__, "fieldoffers.errors")


if __name__ == "__main__":
    unittest.main()
