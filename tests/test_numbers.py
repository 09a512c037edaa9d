"""[1.1] Reckoning with numbers, by 2 ** 32 round."""

import unittest

from netsieve.numbers import reckoned

TOP = 4294967295
HALF = 2147483648
OPS = ("plus", "minus", "times", "over", "rest", "and", "or", "xor", "left", "right")
NUMBERS = (0, 1, 2, 3, 5, 7, 10, 31, 32, 33, 100, 255, 65535, 65536, HALF - 1, HALF, TOP - 1, TOP)

# op, one, other, what is reckoned
ANSWERS = (
    ("plus", 2, 3, 5),
    ("plus", 0, 0, 0),
    ("plus", TOP, 0, TOP),
    ("plus", TOP, 1, 0),
    ("plus", TOP, TOP, 4294967294),
    ("minus", 7, 5, 2),
    ("minus", 0, 0, 0),
    ("minus", 0, 1, TOP),
    ("minus", 5, 7, 4294967294),
    ("minus", 0, TOP, 1),
    ("minus", TOP, TOP, 0),
    ("minus", TOP, 1, 4294967294),
    ("times", 6, 7, 42),
    ("times", TOP, 0, 0),
    ("times", TOP, 1, TOP),
    ("times", TOP, 2, 4294967294),
    ("times", TOP, TOP, 1),
    ("times", 65536, 65536, 0),
    ("over", 7, 2, 3),
    ("over", 0, 1, 0),
    ("over", 0, TOP, 0),
    ("over", 1, TOP, 0),
    ("over", TOP, 1, TOP),
    ("over", TOP, 2, 2147483647),
    ("over", TOP, TOP, 1),
    ("over", TOP - 1, TOP, 0),
    ("rest", 7, 2, 1),
    ("rest", 0, 1, 0),
    ("rest", 0, TOP, 0),
    ("rest", 1, TOP, 1),
    ("rest", TOP, 1, 0),
    ("rest", TOP, 10, 5),
    ("rest", TOP, TOP, 0),
    ("rest", TOP - 1, TOP, TOP - 1),
    ("and", 12, 10, 8),
    ("and", TOP, 0, 0),
    ("and", TOP, 1, 1),
    ("and", TOP, TOP, TOP),
    ("or", 12, 10, 14),
    ("or", 0, 0, 0),
    ("or", TOP, 0, TOP),
    ("or", TOP - 1, 1, TOP),
    ("or", TOP, TOP, TOP),
    ("xor", 12, 10, 6),
    ("xor", 0, 0, 0),
    ("xor", TOP, 0, TOP),
    ("xor", TOP, 1, TOP - 1),
    ("xor", TOP, TOP, 0),
    ("left", 5, 2, 20),
    ("left", 5, 0, 5),
    ("left", 0, 31, 0),
    ("left", 1, 31, HALF),
    ("left", 2, 31, 0),
    ("left", 1, 32, 0),
    ("left", TOP, 0, TOP),
    ("left", TOP, 1, TOP - 1),
    ("left", TOP, 31, HALF),
    ("left", TOP, 32, 0),
    ("left", TOP, 33, 0),
    ("left", TOP, 64, 0),
    ("left", TOP, 1000000, 0),
    ("left", 1, TOP, 0),
    ("right", 20, 2, 5),
    ("right", 7, 1, 3),
    ("right", 7, 0, 7),
    ("right", 0, 31, 0),
    ("right", 1, 1, 0),
    ("right", HALF, 31, 1),
    ("right", TOP, 0, TOP),
    ("right", TOP, 1, 2147483647),
    ("right", TOP, 31, 1),
    ("right", TOP, 32, 0),
    ("right", TOP, 33, 0),
    ("right", TOP, 64, 0),
    ("right", TOP, 1000000, 0),
    ("right", TOP, TOP, 0),
)


def digit(number, place):
    return number // 2 ** place % 2


# Digit by digit, and by doubling and halving, so that no operator of the program's is used again.
def by_digits(op, one, other):
    total = 0
    for place in range(32):
        pair = digit(one, place) + digit(other, place)
        held = {"and": pair == 2, "or": pair > 0, "xor": pair == 1}[op]
        total += held * 2 ** place
    return total


def by_moving(op, one, often):
    for _ in range(min(often, 32)):
        one = one * 2 % 2 ** 32 if op == "left" else one // 2
    return one


class Reckoning(unittest.TestCase):
    def test_answers(self):
        for op, one, other, answer in ANSWERS:
            with self.subTest(f"{one} {op} {other}"):
                self.assertEqual(reckoned(op, one, other), answer)

    def test_over_and_rest_by_0_are_none(self):
        for op in ("over", "rest"):
            for one in (0, 1, 7, TOP):
                with self.subTest(f"{one} {op} 0"):
                    self.assertIsNone(reckoned(op, one, 0))

    def test_none_comes_of_over_and_rest_by_0_alone(self):
        for op in OPS:
            for one in NUMBERS:
                for other in NUMBERS:
                    by_0 = op in ("over", "rest") and other == 0
                    with self.subTest(f"{one} {op} {other}"):
                        self.assertEqual(reckoned(op, one, other) is None, by_0)

    def test_what_is_reckoned_is_a_number(self):
        for op in OPS:
            for one in NUMBERS:
                for other in NUMBERS[1:]:
                    answer = reckoned(op, one, other)
                    with self.subTest(f"{one} {op} {other}"):
                        self.assertIs(type(answer), int)
                        self.assertTrue(0 <= answer <= TOP)

    def test_sums_and_products_are_brought_round(self):
        for one in NUMBERS:
            for other in NUMBERS:
                with self.subTest(f"{one} {other}"):
                    self.assertEqual(reckoned("plus", one, other), (one + other) % 2 ** 32)
                    self.assertEqual(reckoned("minus", one, other), (one - other) % 2 ** 32)
                    self.assertEqual(reckoned("times", one, other), one * other % 2 ** 32)

    def test_quotient_and_rest_belong_together(self):
        for one in NUMBERS:
            for other in NUMBERS[1:]:
                quotient, left = reckoned("over", one, other), reckoned("rest", one, other)
                with self.subTest(f"{one} {other}"):
                    self.assertEqual(quotient * other + left, one)
                    self.assertLess(left, other)

    def test_digits(self):
        for op in ("and", "or", "xor"):
            for one in NUMBERS:
                for other in NUMBERS:
                    with self.subTest(f"{one} {op} {other}"):
                        self.assertEqual(reckoned(op, one, other), by_digits(op, one, other))

    def test_doubled_and_halved(self):
        for op in ("left", "right"):
            for one in NUMBERS:
                for often in tuple(range(36)) + (64, 1000, HALF, TOP):
                    with self.subTest(f"{one} {op} {often}"):
                        self.assertEqual(reckoned(op, one, often), by_moving(op, one, often))

    def test_numbers_somewhat_beyond_are_not_refused(self):
        for op in OPS:
            for one in (-1, TOP + 1, TOP + 2):
                for other in (-1, 1, TOP + 1, TOP + 2):
                    with self.subTest(f"{one} {op} {other}"):
                        self.assertTrue(0 <= reckoned(op, one, other) <= TOP)


if __name__ == "__main__":
    unittest.main()
