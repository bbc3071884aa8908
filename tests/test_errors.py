import unittest

from formturn import errors

REFUSALS = ["NotAForm", "NotATurning", "NoBar", "OtherBar", "NotBare", "OutOfBounds", "NotWritten"]


class ErrorClasses(unittest.TestCase):
    def test_form_error_stands_straight_under_value_error(self):
        self.assertEqual(errors.FormError.__bases__, (ValueError,))

    def test_each_refusal_stands_straight_under_form_error(self):
        for name in REFUSALS:
            with self.subTest(name=name):
                self.assertEqual(getattr(errors, name).__bases__, (errors.FormError,))

    def test_no_refusal_stands_under_another(self):
        for one in REFUSALS:
            for other in REFUSALS:
                with self.subTest(one=one, other=other):
                    under = issubclass(getattr(errors, one), getattr(errors, other))
                    self.assertEqual(under, one == other)

    def test_each_class_bears_its_own_name(self):
        for name in REFUSALS + ["FormError"]:
            with self.subTest(name=name):
                self.assertEqual(getattr(errors, name).__name__, name)

    def test_each_refusal_is_taken_as_a_form_error_and_as_a_value_error(self):
        for name in REFUSALS:
            for taken in (errors.FormError, ValueError):
                with self.subTest(name=name, taken=taken):
                    with self.assertRaises(taken):
                        raise getattr(errors, name)("words")


if __name__ == "__main__":
    unittest.main()
