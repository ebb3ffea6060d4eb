"""The classes of voiceweave.errors, as the interface lists them."""

import unittest

from voiceweave import errors

KINDS = ["BadPiece", "BadNumber", "BadTheme", "BadEntry", "OutOfRange", "Uneven", "Clash", "NoText"]


class ErrorsTest(unittest.TestCase):
    def test_weave_error_is_a_value_error(self):
        self.assertEqual(errors.WeaveError.__bases__, (ValueError,))

    def test_each_other_stands_straight_under_weave_error(self):
        for name in KINDS:
            with self.subTest(name=name):
                self.assertEqual(getattr(errors, name).__bases__, (errors.WeaveError,))

    def test_each_is_a_class_of_its_own_with_its_name(self):
        for name in KINDS + ["WeaveError"]:
            with self.subTest(name=name):
                self.assertEqual(getattr(errors, name).__name__, name)
                self.assertEqual(getattr(errors, name).__module__, "voiceweave.errors")

    def test_none_stands_under_another(self):
        for name in KINDS:
            for other in KINDS:
                if name != other:
                    with self.subTest(name=name, other=other):
                        self.assertFalse(issubclass(getattr(errors, name), getattr(errors, other)))

    def test_each_is_caught_as_a_weave_error_and_as_a_value_error(self):
        for name in KINDS:
            for caught in (errors.WeaveError, ValueError):
                with self.subTest(name=name, caught=caught.__name__):
                    with self.assertRaises(caught):
                        raise getattr(errors, name)("why")


if __name__ == "__main__":
    unittest.main()
