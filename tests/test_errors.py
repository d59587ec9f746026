"""The refusals (point 24) and their classes (the interface, tankbalance/errors.py)."""

import inspect
import unittest

from tankbalance import errors

REFUSALS = (
    "BadTanks", "UnknownDay", "UnknownPlace", "SamePlace", "WrongRises", "UnknownStream", "Twice",
    "AlreadyMetered", "NotMetered", "ReadingMissing", "OutOfRange", "TooManyStreams", "TooManyMeters",
    "TooManyDays", "TooManyDeeds", "NothingDone", "Clashing",
)


class ErrorsTest(unittest.TestCase):
    def test_the_base_stands_straight_under_value_error(self):
        self.assertEqual(errors.CellarError.__name__, "CellarError")
        self.assertEqual(errors.CellarError.__bases__, (ValueError,))

    def test_each_refusal_is_there_straight_under_the_base(self):
        for name in REFUSALS:
            with self.subTest(name=name):
                refusal = getattr(errors, name)
                self.assertTrue(inspect.isclass(refusal))
                self.assertEqual(refusal.__name__, name)
                self.assertEqual(refusal.__bases__, (errors.CellarError,))

    def test_refusals_are_apart(self):
        classes = [getattr(errors, name) for name in REFUSALS]
        self.assertEqual(len(set(classes)), len(REFUSALS))
        for one in classes:
            for other in classes:
                self.assertEqual(issubclass(one, other), one is other)

    def test_each_refusal_is_raised_and_caught(self):
        for name in REFUSALS:
            refusal = getattr(errors, name)
            for caught in (refusal, errors.CellarError, ValueError):
                with self.subTest(name=name, caught=caught.__name__):
                    with self.assertRaises(caught):
                        raise refusal()
                    with self.assertRaises(caught):
                        raise refusal("some words")


if __name__ == "__main__":
    unittest.main()
