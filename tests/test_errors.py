"""The interface of coinjudge/errors.py."""

import unittest

from coinjudge import errors

REFUSALS = ["NoRow", "NoWay", "NoAmount", "TooGreat", "NoText"]


class Errors(unittest.TestCase):

    def test_coin_error_is_a_value_error(self):
        self.assertTrue(issubclass(errors.CoinError, ValueError))

    def test_each_refusal_is_a_coin_error(self):
        for name in REFUSALS:
            with self.subTest(name=name):
                kind = getattr(errors, name)
                self.assertTrue(issubclass(kind, errors.CoinError))
                self.assertIsNot(kind, errors.CoinError)

    def test_no_refusal_is_under_another(self):
        for low in REFUSALS:
            for high in REFUSALS:
                if low != high:
                    with self.subTest(low=low, high=high):
                        self.assertFalse(issubclass(getattr(errors, low), getattr(errors, high)))

    def test_each_class_is_defined_in_errors_under_its_name(self):
        for name in ["CoinError"] + REFUSALS:
            with self.subTest(name=name):
                kind = getattr(errors, name)
                self.assertEqual(kind.__module__, "coinjudge.errors")
                self.assertEqual(kind.__qualname__, name)

    def test_each_class_can_be_raised_with_a_message(self):
        for name in ["CoinError"] + REFUSALS:
            with self.subTest(name=name):
                kind = getattr(errors, name)
                with self.assertRaises(ValueError) as caught:
                    raise kind("why")
                self.assertIs(type(caught.exception), kind)
                self.assertEqual(str(caught.exception), "why")


if __name__ == "__main__":
    unittest.main()
