"""The classes of errors."""

import unittest

from mirrorwords import errors

SEVEN = ["BadText", "BadLetter", "BadWord", "BadArms", "NoText", "NoPlace", "Full"]


class Classes(unittest.TestCase):
    def test_mirror_error_is_straight_under_value_error(self):
        self.assertEqual(errors.MirrorError.__bases__, (ValueError,))

    def test_each_is_straight_under_mirror_error(self):
        for name in SEVEN:
            with self.subTest(name=name):
                self.assertEqual(getattr(errors, name).__bases__, (errors.MirrorError,))
                self.assertTrue(issubclass(getattr(errors, name), ValueError))

    def test_none_is_under_another(self):
        for low in SEVEN:
            for high in SEVEN:
                if low != high:
                    with self.subTest(low=low, high=high):
                        self.assertFalse(issubclass(getattr(errors, low), getattr(errors, high)))

    def test_each_is_defined_in_this_file_under_its_name(self):
        for name in ["MirrorError"] + SEVEN:
            with self.subTest(name=name):
                self.assertEqual(getattr(errors, name).__name__, name)
                self.assertEqual(getattr(errors, name).__module__, "mirrorwords.errors")

    def test_each_is_raised_and_caught_as_any_refusal(self):
        for name in SEVEN:
            for above in (getattr(errors, name), errors.MirrorError, ValueError):
                with self.subTest(name=name, above=above):
                    with self.assertRaises(above):
                        raise getattr(errors, name)("why")


if __name__ == "__main__":
    unittest.main()
