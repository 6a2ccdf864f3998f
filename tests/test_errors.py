import unittest

from dotpress import errors

REFUSALS = ["TooFew", "TooMany", "TooWide", "NoFormula", "NoName", "NoLine", "NoCircuit", "OutOfWidth"]


class ErrorsTest(unittest.TestCase):
    def test_press_error_stands_straight_under_value_error(self):
        self.assertEqual(errors.PressError.__bases__, (ValueError,))

    def test_each_refusal_stands_straight_under_press_error(self):
        for name in REFUSALS:
            with self.subTest(name=name):
                self.assertEqual(getattr(errors, name).__bases__, (errors.PressError,))
                self.assertEqual(getattr(errors, name).__name__, name)

    def test_no_refusal_stands_under_another(self):
        for name in REFUSALS:
            for other in REFUSALS:
                if name != other:
                    with self.subTest(name=name, other=other):
                        self.assertFalse(issubclass(getattr(errors, name), getattr(errors, other)))

    def test_press_error_is_none_of_the_refusals(self):
        for name in REFUSALS:
            with self.subTest(name=name):
                self.assertFalse(issubclass(errors.PressError, getattr(errors, name)))

    def test_each_refusal_is_taken_as_press_error_and_value_error(self):
        for name in REFUSALS:
            for taken in (errors.PressError, ValueError):
                with self.subTest(name=name, taken=taken):
                    with self.assertRaises(taken):
                        raise getattr(errors, name)("why")


if __name__ == "__main__":
    unittest.main()
