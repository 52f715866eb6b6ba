"""The classes of sharepack.errors."""

import unittest

from sharepack import errors

NAMES = ["BadBook", "BadShares", "BadSign", "BadCount", "BadBit", "Loose", "Short", "BadLine"]


class ErrorsTest(unittest.TestCase):
    def test_any_refusal_is_a_value_error(self):
        self.assertEqual(errors.PackError.__bases__, (ValueError,))

    def test_each_refusal_stands_right_under_pack_error(self):
        for name in NAMES:
            with self.subTest(name=name):
                self.assertEqual(getattr(errors, name).__bases__, (errors.PackError,))

    def test_each_class_is_defined_in_errors_under_its_own_name(self):
        for name in ["PackError"] + NAMES:
            with self.subTest(name=name):
                self.assertEqual(getattr(errors, name).__module__, "sharepack.errors")
                self.assertEqual(getattr(errors, name).__name__, name)

    def test_no_refusal_is_another_one(self):
        for name in NAMES:
            for other in NAMES:
                with self.subTest(name=name, other=other):
                    self.assertEqual(issubclass(getattr(errors, name), getattr(errors, other)), name == other)

    def test_each_class_can_be_raised_with_a_message_and_without(self):
        for name in ["PackError"] + NAMES:
            with self.subTest(name=name):
                with self.assertRaises(errors.PackError):
                    raise getattr(errors, name)("why")
                with self.assertRaises(ValueError):
                    raise getattr(errors, name)()


if __name__ == "__main__":
    unittest.main()
