"""Stage 1: the numbers of a world, and how integers are judged."""

import unittest

from helper import JUNK, Dice, check_order, error_of, name_error, number_error, refused_all
from settledplay.base.numbers import MOST, OPS, clamped, is_number, worked

EDGES = (0, 1, -1, 2, -2, 3, 7, -7, 10, MOST - 1, MOST, -MOST, 1 - MOST, 31623, -31623, 500000000)
# 0 by a number is 0, as is rest: the reference goes by the told words, case by case.
REFERENCE = {
    "less": lambda a, b: a < b,
    "same": lambda a, b: a == b,
    "both": lambda a, b: a != 0 and b != 0,
    "any": lambda a, b: a != 0 or b != 0,
}


def nearest(integer):
    return -MOST if integer < -MOST else MOST if integer > MOST else integer


class NumbersTest(unittest.TestCase):
    def test_constants(self):
        self.assertEqual(MOST, 1000000000)
        self.assertEqual(OPS, ("plus", "minus", "times", "over", "rest", "least", "most", "less", "same", "both", "any"))

    def test_numbers_and_their_bounds(self):
        for value in (0, 1, -1, MOST, -MOST):
            self.assertIs(is_number(value), True)
        for value in (MOST + 1, -MOST - 1, *JUNK):
            self.assertIs(is_number(value), value == -1 and type(value) is int, value)

    def test_clamped(self):
        for value, number in ((0, 0), (MOST, MOST), (MOST + 1, MOST), (-MOST, -MOST), (-MOST - 1, -MOST), (77, 77),
                              (10 ** 60 - 1, MOST), (1 - 10 ** 60, -MOST)):
            self.assertEqual(clamped(value), number)

    def test_clamped_refuses_what_is_no_integer(self):
        for value in (10 ** 60, -10 ** 60, True, False, None, "1", (), [1]):
            self.assertEqual(error_of(clamped, value), number_error(value))
        refused_all(self, clamped, "InvalidNumber", (3,))

    def test_sums_and_products_are_clamped(self):
        for a in EDGES:
            for b in EDGES:
                self.assertEqual(worked("plus", a, b), nearest(a + b))
                self.assertEqual(worked("minus", a, b), nearest(a - b))
                self.assertEqual(worked("times", a, b), nearest(a * b))
        self.assertEqual(worked("plus", MOST, 1), MOST)
        self.assertEqual(worked("minus", -MOST, 1), -MOST)

    def test_over_is_the_greatest_integer_not_above(self):
        for a in EDGES:
            for b in EDGES:
                over = worked("over", a, b)
                if b == 0:
                    self.assertEqual((over, worked("rest", a, b)), (0, 0))
                elif b > 0:
                    self.assertTrue(over * b <= a < (over + 1) * b)
                else:
                    self.assertTrue(over * b >= a > (over + 1) * b)

    def test_over_and_rest_together(self):
        for a in EDGES:
            for b in EDGES:
                rest = worked("rest", a, b)
                if b != 0:
                    self.assertEqual(b * worked("over", a, b) + rest, a)
                    self.assertTrue(rest == 0 or 0 < rest < b or b < rest < 0)

    def test_the_others(self):
        for a in EDGES:
            for b in EDGES:
                self.assertEqual(worked("least", a, b), a if a < b else b)
                self.assertEqual(worked("most", a, b), a if a > b else b)
                for op, truth in REFERENCE.items():
                    number = worked(op, a, b)
                    self.assertEqual((number, type(number)), (1 if truth(a, b) else 0, int), (op, a, b))

    def test_each_operation_makes_numbers(self):
        dice = Dice(1)
        for op in OPS:
            for _ in range(300):
                a, b = dice.random.randint(-MOST, MOST), dice.some(*EDGES)
                self.assertTrue(is_number(worked(op, a, b)) and is_number(worked(op, b, a)), (op, a, b))

    def test_worked_refuses(self):
        bad = [(value, number_error(value)) for value in (MOST + 1, -MOST - 1, True, None, 10 ** 60, "1", [])]
        ops = [(value, name_error(value)) for value in ("", "Plus", "if", "not", None, True, 0, (), ["plus"], {})]
        check_order(self, worked, ("plus", 1, 2), (ops, bad, bad))

    def test_what_is_not_true(self):
        self.assertNotEqual(worked("plus", worked("plus", MOST, 1), -1), worked("plus", MOST, worked("plus", 1, -1)))
        self.assertEqual(worked("rest", 7, -2), -1)


if __name__ == "__main__":
    unittest.main()
