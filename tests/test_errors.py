"""The error classes of graft/errors.py."""

import unittest

from graft.errors import BadStep, Invalid, Looping, Malformed, Refused, Unknown

CLASSES = (
    (Malformed, "at", 7),
    (Invalid, "name", "grammar"),
    (Unknown, "name", "rule"),
    (Looping, "name", "rule"),
    (BadStep, "number", 3),
)


class ErrorsTest(unittest.TestCase):
    def test_refused_is_a_value_error(self):
        self.assertTrue(issubclass(Refused, ValueError))

    def test_each_error_is_refused_and_a_value_error(self):
        for kind, _, value in CLASSES:
            self.assertIsInstance(kind(value), Refused)
            self.assertIsInstance(kind(value), ValueError)

    def test_each_error_has_its_field(self):
        for kind, field, value in CLASSES:
            self.assertEqual(getattr(kind(value), field), value)
            self.assertEqual(getattr(kind(**{field: value}), field), value)

    def test_no_error_is_another_one(self):
        for kind, _, value in CLASSES:
            others = [other for other, _, _ in CLASSES if other is not kind]
            self.assertFalse(isinstance(kind(value), tuple(others)))


if __name__ == "__main__":
    unittest.main()
