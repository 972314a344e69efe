"""The interface's section meanpace/errors.py."""

import unittest

from meanpace import errors

REFUSALS = ["BadCount", "NoMeeting", "BadDelay", "Apart", "NoRing", "BadPace"]


class ErrorsTest(unittest.TestCase):
    def test_pace_error_stands_directly_under_value_error(self):
        self.assertEqual(errors.PaceError.__bases__, (ValueError,))

    def test_each_refusal_stands_directly_under_pace_error(self):
        for name in REFUSALS:
            with self.subTest(name):
                self.assertEqual(getattr(errors, name).__bases__, (errors.PaceError,))

    def test_no_refusal_stands_under_another_one(self):
        for name in REFUSALS:
            for other in REFUSALS:
                if name != other:
                    with self.subTest(name, other=other):
                        self.assertFalse(
                            issubclass(getattr(errors, name), getattr(errors, other))
                        )

    def test_each_class_is_defined_under_its_name_in_this_file(self):
        for name in ["PaceError"] + REFUSALS:
            with self.subTest(name):
                self.assertEqual(getattr(errors, name).__name__, name)
                self.assertEqual(getattr(errors, name).__module__, "meanpace.errors")

    def test_each_refusal_is_raised_and_caught_with_its_words(self):
        for name in REFUSALS:
            for caught in (getattr(errors, name), errors.PaceError, ValueError):
                with self.subTest(name, caught=caught):
                    with self.assertRaisesRegex(caught, "^so it is$"):
                        raise getattr(errors, name)("so it is")


if __name__ == "__main__":
    unittest.main()
