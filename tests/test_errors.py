import unittest

from support import Case
from sayswho import errors

REFUSALS = ("TooLong", "NoRow", "NoPlace", "NoMeasure", "Twice", "Full", "NoBox", "NoMark", "NoSaying",
            "NoForm", "NoneYet", "NotSeen")


class Errors(Case):
    def test_say_error_is_a_value_error(self):
        self.assertTrue(issubclass(errors.SayError, ValueError))

    def test_each_refusal_stands_under_say_error(self):
        for name in REFUSALS:
            with self.subTest(name=name):
                refusal = getattr(errors, name)
                self.assertTrue(issubclass(refusal, errors.SayError))
                self.assertIsNot(refusal, errors.SayError)
                self.assertEqual(refusal.__name__, name)

    def test_no_refusal_stands_under_another_one(self):
        for name in REFUSALS:
            for other in REFUSALS:
                if name != other:
                    with self.subTest(name=name, other=other):
                        self.assertFalse(issubclass(getattr(errors, name), getattr(errors, other)))

    def test_say_error_stands_under_no_refusal(self):
        for name in REFUSALS:
            self.assertFalse(issubclass(errors.SayError, getattr(errors, name)))

    def test_each_can_be_raised_and_taken_as_say_error(self):
        for name in REFUSALS:
            with self.subTest(name=name), self.assertRaises(errors.SayError):
                raise getattr(errors, name)("words")


if __name__ == "__main__":
    unittest.main()
