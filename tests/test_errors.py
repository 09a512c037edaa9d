"""The error classes of the interface."""

import unittest

from netsieve.errors import BadFilter, BadLine, NotLetIn, SieveError, Stuck, TooDeep

WITH_VALUES = ((NotLetIn, "at"), (Stuck, "at"), (BadFilter, "word"), (BadLine, "line"))
REFUSALS = (NotLetIn, Stuck, BadFilter, BadLine, TooDeep)


class Errors(unittest.TestCase):
    def test_sieve_error_stands_straight_below_value_error(self):
        self.assertEqual(SieveError.__bases__, (ValueError,))

    def test_each_stands_below_sieve_error(self):
        for kind in REFUSALS:
            with self.subTest(kind.__name__):
                self.assertTrue(issubclass(kind, SieveError))
                self.assertIsNot(kind, SieveError)

    def test_none_stands_below_another(self):
        for one in REFUSALS:
            for other in REFUSALS:
                if one is not other:
                    with self.subTest(f"{one.__name__} {other.__name__}"):
                        self.assertFalse(issubclass(one, other))

    def test_each_bears_its_value(self):
        for kind, name in WITH_VALUES:
            for value in (0, 1, 2000):
                with self.subTest(f"{kind.__name__} {value}"):
                    self.assertEqual(getattr(kind(value), name), value)

    def test_values_are_of_the_object_not_of_the_class(self):
        for kind, name in WITH_VALUES:
            with self.subTest(kind.__name__):
                first, second = kind(3), kind(4)
                self.assertEqual((getattr(first, name), getattr(second, name)), (3, 4))

    def test_each_is_raised_and_taken_as_sieve_error(self):
        for error in (NotLetIn(1), Stuck(2), BadFilter(3), BadLine(4), TooDeep()):
            with self.subTest(repr(error)):
                with self.assertRaises(SieveError) as taken:
                    raise error
                self.assertIs(taken.exception, error)


if __name__ == "__main__":
    unittest.main()
