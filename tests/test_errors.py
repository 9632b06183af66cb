"""The error classes of the interface."""

import unittest

from glazework import errors

BELOW = ("NoName", "NoMerge", "NoOpen", "NoSwap", "NotSo", "NoDeed", "Held", "NoText")


class ErrorClasses(unittest.TestCase):
    def test_glaze_error_is_a_value_error(self):
        self.assertTrue(issubclass(errors.GlazeError, ValueError))

    def test_each_is_below_glaze_error(self):
        for name in BELOW:
            with self.subTest(name=name):
                one = getattr(errors, name)
                self.assertTrue(issubclass(one, errors.GlazeError))
                self.assertIsNot(one, errors.GlazeError)
                self.assertEqual(one.__name__, name)

    def test_none_is_below_another(self):
        for name in BELOW:
            for other in BELOW:
                with self.subTest(name=name, other=other):
                    self.assertEqual(issubclass(getattr(errors, name), getattr(errors, other)), name == other)

    def test_they_are_raised_and_taken_by_name(self):
        for name in BELOW:
            with self.subTest(name=name):
                with self.assertRaises(errors.GlazeError) as caught:
                    raise getattr(errors, name)("why")
                self.assertEqual(str(caught.exception), "why")


if __name__ == "__main__":
    unittest.main()
