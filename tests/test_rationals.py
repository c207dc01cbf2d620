"""Point 10 and oddscall/rationals.py."""

import random
import unittest
from fractions import Fraction

from oddscall.rationals import is_rational, less, minus, over, plus, ratio, times
from tests.helpers import ODD_VALUES, error_of, fraction, rational

HUGE = 10 ** 60 + 7
SAMPLES = tuple([rational(Fraction(n, d)) for n in (-9, -4, -1, 0, 1, 2, 6) for d in (1, 2, 3, 4, 9)]) + (
    (HUGE, 1), (-HUGE, 3), (1, HUGE), (HUGE, HUGE - 2), (HUGE - 2, HUGE))


class RatioTest(unittest.TestCase):
    def test_results_are_in_lowest_terms(self):
        self.assertEqual(ratio(6, 4), (3, 2))
        self.assertEqual(ratio(-6, 4), (-3, 2))
        self.assertEqual(ratio(7, 7), (1, 1))
        self.assertEqual(ratio(3, 5), (3, 5))

    def test_the_divisor_may_be_negative(self):
        self.assertEqual(ratio(6, -4), (-3, 2))
        self.assertEqual(ratio(-6, -4), (3, 2))
        self.assertEqual(ratio(1, -1), (-1, 1))

    def test_zero_is_written_in_one_way(self):
        for d in (1, -1, 5, -12, 10 ** 40):
            self.assertEqual(ratio(0, d), (0, 1))

    def test_large_integers(self):
        self.assertEqual(ratio(HUGE * 12, -HUGE * 18), (-2, 3))
        self.assertEqual(ratio(HUGE ** 20, HUGE ** 19), (HUGE, 1))

    def test_the_result_is_a_tuple(self):
        self.assertIsInstance(ratio(4, 2), tuple)

    def test_no_division_by_zero(self):
        for n in (0, 1, -5):
            self.assertEqual(error_of(ratio, n, 0), ("BadValue", "d"))


class ArithmeticTest(unittest.TestCase):
    def test_sums_differences_products_and_quotients(self):
        for a in SAMPLES:
            for b in SAMPLES:
                x, y = Fraction(*a), Fraction(*b)
                self.assertEqual(plus(a, b), rational(x + y))
                self.assertEqual(minus(a, b), rational(x - y))
                self.assertEqual(times(a, b), rational(x * y))
                if y != 0:
                    self.assertEqual(over(a, b), rational(x / y))

    def test_results_are_rationals(self):
        for a in SAMPLES:
            for result in (plus(a, a), minus(a, a), times(a, a), over((1, 2), (-3, 7))):
                self.assertTrue(is_rational(result))
                fraction(result)

    def test_a_difference_can_be_zero(self):
        self.assertEqual(minus((5, 7), (5, 7)), (0, 1))
        self.assertEqual(plus((-5, 7), (5, 7)), (0, 1))

    def test_a_negative_divisor_leaves_a_denominator_from_1(self):
        self.assertEqual(over((1, 2), (-3, 5)), (-5, 6))
        self.assertEqual(over((-1, 2), (-3, 5)), (5, 6))
        self.assertEqual(over((0, 1), (-3, 5)), (0, 1))

    def test_no_quotient_by_zero(self):
        for a in ((0, 1), (1, 1), (-3, 2)):
            self.assertEqual(error_of(over, a, (0, 1)), ("BadValue", "b"))

    def test_many_random_ones(self):
        dice = random.Random(10)
        for _ in range(300):
            size = 10 ** dice.randrange(1, 50)
            a, b = [ratio(dice.randrange(-size, size), dice.randrange(1, size + 1)) for _ in range(2)]
            self.assertEqual(plus(a, b), rational(Fraction(*a) + Fraction(*b)))
            self.assertEqual(minus(a, b), rational(Fraction(*a) - Fraction(*b)))
            self.assertEqual(times(a, b), rational(Fraction(*a) * Fraction(*b)))
            self.assertIs(less(a, b), Fraction(*a) < Fraction(*b))


class LessTest(unittest.TestCase):
    def test_both_orders(self):
        for a in SAMPLES:
            for b in SAMPLES:
                self.assertIs(less(a, b), Fraction(*a) < Fraction(*b))

    def test_a_rational_is_not_less_than_itself(self):
        for a in SAMPLES:
            self.assertIs(less(a, a), False)

    def test_rationals_that_differ_by_little(self):
        self.assertIs(less((HUGE - 1, HUGE), (HUGE, HUGE + 1)), True)
        self.assertIs(less((HUGE, HUGE + 1), (HUGE - 1, HUGE)), False)


class IsRationalTest(unittest.TestCase):
    def test_rationals(self):
        for value in SAMPLES + ((0, 1), (1, 1), (-1, 1), (-1, 2)):
            self.assertIs(is_rational(value), True, value)

    def test_values_that_are_none(self):
        for value in ODD_VALUES + (
                0, 7, (True, 1), (False, 1), (1, True), (3, True), [1, 2], (1, 2, 3), (1,), (1, 0), (0, 0), (1, -2),
                (-1, -2), (0, -1), (2, 4), (-2, 4), (3, 3), (0, 2), (0, 5), "12", "ab", None, ((1, 2), (3, 4)),
                ((1, 2),), (1, (2,)), ((1,), 2), ("1", "2"), ("1", 2), (1, "2"), (1, None), (None, 1),
                (HUGE * 2, HUGE * 4), (1, 2, 1)):
            self.assertIs(is_rational(value), False, value)


if __name__ == "__main__":
    unittest.main()
