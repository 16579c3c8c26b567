"""Points 00.1 and 00.3: the errors."""

import unittest

from formkeeper import errors
from formkeeper.errors import FormkeeperError

NAMES = (
    "Truncated", "InvalidText", "InvalidJson", "InvalidSchema", "InvalidData", "Unreadable",
    "Damaged", "InvalidContainer", "PowerLost", "InvalidHttp", "LineCut",
)


class ErrorsTest(unittest.TestCase):

    def test_base_class(self):
        error = FormkeeperError(7)
        self.assertEqual((7, "FormkeeperError"), (error.place, error.name))
        self.assertIsInstance(error, ValueError)
        self.assertEqual((ValueError,), FormkeeperError.__bases__)

    def test_every_class_is_derived_directly_from_the_base_alone(self):
        for name in NAMES:
            with self.subTest(name):
                self.assertEqual((FormkeeperError,), getattr(errors, name).__bases__)

    def test_place_and_name(self):
        for name in NAMES:
            for place in (0, 1, 12345678901234567890):
                with self.subTest(name, place=place):
                    error = getattr(errors, name)(place)
                    self.assertEqual((place, name), (error.place, error.name))

    def test_place_by_its_name(self):
        self.assertEqual(3, errors.Truncated(place=3).place)

    def test_an_error_is_caught_by_its_own_class_and_the_base_only(self):
        for name in NAMES:
            for other in NAMES:
                with self.subTest(name, other=other):
                    self.assertEqual(name == other, issubclass(getattr(errors, name), getattr(errors, other)))

    def test_each_class_is_defined_in_the_file_of_the_interface(self):
        for name in NAMES + ("FormkeeperError",):
            self.assertEqual("formkeeper.errors", getattr(errors, name).__module__)

    def test_an_error_is_equal_to_no_value_of_another_class(self):
        self.assertNotEqual(errors.Truncated(1), errors.InvalidText(1))
        self.assertNotEqual(errors.Truncated(1), 1)


if __name__ == "__main__":
    unittest.main()
