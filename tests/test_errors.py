import unittest

from backindex import errors
from helper import NAMES


class ErrorClasses(unittest.TestCase):
    def test_back_error_is_straight_under_value_error(self):
        self.assertEqual(errors.BackError.__bases__, (ValueError,))

    def test_each_refusal_is_straight_under_back_error(self):
        for name in NAMES:
            with self.subTest(name):
                self.assertEqual(getattr(errors, name).__bases__, (errors.BackError,))

    def test_no_refusal_is_under_another(self):
        for name in NAMES:
            for other in NAMES:
                with self.subTest(name, other=other):
                    under = issubclass(getattr(errors, name), getattr(errors, other))
                    self.assertEqual(under, name == other)

    def test_each_class_bears_its_own_name(self):
        for name in NAMES + ("BackError",):
            self.assertEqual(getattr(errors, name).__name__, name)

    def test_each_refusal_is_taken_by_its_name_and_those_above_alone(self):
        for name in NAMES:
            others = tuple(getattr(errors, other) for other in NAMES if other != name)
            for taker in (getattr(errors, name), errors.BackError, ValueError):
                with self.subTest(name, taker=taker):
                    try:
                        raise getattr(errors, name)("some words")
                    except others:
                        self.fail("taken by another refusal")
                    except taker as taken:
                        self.assertEqual(str(taken), "some words")


if __name__ == "__main__":
    unittest.main()
