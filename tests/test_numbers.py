"""Points 14 to 18 and oddscall/numbers.py."""

import random
import unittest
from fractions import Fraction
from math import gcd, isqrt

from oddscall.fields import is_element, is_field, subtract
from oddscall.numbers import compare_numbers, element_of, floor_of, is_number, number_of, number_sign
from tests.helpers import ODD_VALUES, error_of, rational

LONG = 10 ** 29 + 33

ROOT_2 = ("root", (-2, 0, 1), 1)
ROOT_3 = ("root", (-3, 0, 1), 1)
RATIONALS = tuple([("rational", rational(r)) for r in (
    0, 1, -1, 2, Fraction(7, 5), Fraction(-7, 5), Fraction(3, 2), LONG, Fraction(-LONG, 7), Fraction(1, LONG))])
EQUATIONS = ((-2, 0, 1), (-3, 0, 1), (-1, -2, 1), (-1, -1, 1), (-1, 1, 1), (1, -3, 1), (1, 3, 1), (-8, 0, 1), (-8, 0, 9),
             (-1, 0, 2), (-1, -10, 7), (1, -2 * LONG, 1), (-1, LONG, LONG), (2 - LONG * LONG, 0, 1), (1, -1000, 3))
ROOTS = tuple([("root", equation, which) for equation in EQUATIONS for which in (0, 1)])
NUMBERS = RATIONALS + ROOTS

NO_NUMBERS = ODD_VALUES + (
    0, (1, 2), ("rational",), ("rational", (2, 4)), ("rational", (1, 0)), ("rational", (1, -2)), ("rational", [1, 2]),
    ("rational", (1, 2), 0), ("rational", (True, 1)), ("rational", 1), ["rational", (1, 2)], ("Rational", (1, 2)),
    ("rationals", (1, 2)), ("", (1, 2)), (None, (1, 2)), (("rational",), (1, 2)), ([], (1, 2)),
    ("root",), ("root", (-2, 0, 1)), ("root", (-2, 0, 1), 1, 1), ("root", 1), ("root", 1, (-2, 0, 1)), ("roots", (-2, 0, 1), 1),
    ["root", (-2, 0, 1), 1], ("root", [-2, 0, 1], 1), ("rational", (-2, 0, 1), 1), ("root", (-2, 0), 1),
    ("root", (-2, 0, 1, 0), 1), ("root", (), 1), ("root", None, 1), ("root", "abc", 1),
    # a is 0 or below
    ("root", (-2, 1, 0), 1), ("root", (2, 0, -1), 1), ("root", (1, 2, -1), 0),
    # a common divisor of all three
    ("root", (-4, 0, 2), 1), ("root", (-6, 0, 3), 0), ("root", (-5, 0, 5), 1), ("root", (-LONG * 2, 0, LONG), 1),
    # a discriminant that is a square, or not greater than 0
    ("root", (-1, 0, 1), 1), ("root", (2, -3, 1), 1), ("root", (0, 1, 1), 0), ("root", (0, 0, 1), 0),
    ("root", (1, 2, 1), 0), ("root", (1, 0, 1), 1), ("root", (1, 1, 1), 1), ("root", (2, 0, 1), 1), ("root", (-1, 0, 4), 1),
    # other words for which of the two
    ("root", (-2, 0, 1), 2), ("root", (-2, 0, 1), -1), ("root", (-2, 0, 1), True), ("root", (-2, 0, 1), False),
    ("root", (-2, 0, 1), None), ("root", (-2, 0, 1), "1"), ("root", (-2, 0, 1), (1,)),
    # parts that are no integers
    ("root", (-2, False, 1), 1), ("root", (-2, 0, True), 1), ("root", (-2, None, 1), 1),
    ("root", ("-2", 0, 1), 1), ("root", ((-2, 1), (0, 1), (1, 1)), 1))


def side_of(r, number):
    """Return how a fraction compares with a number, by the sign of its polynomial there."""
    if number[0] == "rational":
        other = Fraction(*number[1])
        return (r > other) - (r < other)
    c, b, a = number[1]
    value = c + b * r + a * r * r
    middle = Fraction(-b, 2 * a)
    if value < 0:
        return 1 if number[2] == 0 else -1
    return 1 if r > middle else -1


def decimals(number, size):
    """Return the greatest integer m such that m / size is not greater than the number, by bisection."""
    low, high = -1, 1
    while side_of(Fraction(low, size), number) > 0:
        low = low * 2
    while side_of(Fraction(high, size), number) <= 0:
        high = high * 2
    while high - low > 1:
        middle = (low + high) // 2
        if side_of(Fraction(middle, size), number) <= 0:
            low = middle
        else:
            high = middle
    return low


def exact_order(first, second):
    """Return how two numbers compare: equal numbers are equal tuples, and all others differ in some decimal."""
    if first == second:
        return 0
    size = 1
    while True:
        one, other = decimals(first, size), decimals(second, size)
        if one != other:
            return 1 if one > other else -1
        size = size * 10 ** 40


class IsNumberTest(unittest.TestCase):
    def test_both_forms(self):
        for value in NUMBERS:
            self.assertIs(is_number(value), True, value)

    def test_values_that_are_none(self):
        for value in NO_NUMBERS:
            self.assertIs(is_number(value), False, value)

    def test_all_small_equations(self):
        for c in range(-4, 5):
            for b in range(-4, 5):
                for a in range(-2, 5):
                    inside = b * b - 4 * a * c
                    proper = a > 0 and gcd(gcd(a, b), c) == 1 and inside > 0 and isqrt(inside) ** 2 != inside
                    self.assertIs(is_number(("root", (c, b, a), 0)), proper, (c, b, a))
                    self.assertIs(is_number(("root", (c, b, a), 1)), proper, (c, b, a))


class BetweenFormsTest(unittest.TestCase):
    def test_rationals_are_elements_of_the_field_0(self):
        for number in RATIONALS:
            self.assertEqual(element_of(number), (0, (number[1], (0, 1))))
            self.assertEqual(number_of(0, (number[1], (0, 1))), number)

    def test_rationals_in_any_field(self):
        for field in (0, 2, 12, 10 ** 24 + 1):
            self.assertEqual(number_of(field, ((-3, 4), (0, 1))), ("rational", (-3, 4)))

    def test_the_field_of_a_root(self):
        for number in ROOTS:
            c, b, a = number[1]
            field, element = element_of(number)
            self.assertEqual(field, b * b - 4 * a * c)
            self.assertIs(is_field(field), True)
            self.assertIs(is_element(field, element), True)

    def test_both_directions(self):
        for number in NUMBERS:
            field, element = element_of(number)
            self.assertEqual(number_of(field, element), number)
            self.assertIs(is_number(number_of(field, element)), True)

    def test_the_element_of_each_of_the_two_roots(self):
        self.assertEqual(element_of(("root", (-1, -2, 1), 1)), (8, ((1, 1), (1, 2))))
        self.assertEqual(element_of(("root", (-1, -2, 1), 0)), (8, ((1, 1), (-1, 2))))
        self.assertEqual(element_of(("root", (-1, 3, 5), 0)), (29, ((-3, 10), (-1, 10))))

    def test_the_number_of_an_element(self):
        self.assertEqual(number_of(2, ((0, 1), (1, 1))), ("root", (-2, 0, 1), 1))
        self.assertEqual(number_of(2, ((0, 1), (-1, 1))), ("root", (-2, 0, 1), 0))
        self.assertEqual(number_of(8, ((0, 1), (1, 2))), ("root", (-2, 0, 1), 1))
        self.assertEqual(number_of(5, ((1, 2), (1, 2))), ("root", (-1, -1, 1), 1))
        self.assertEqual(number_of(5, ((1, 2), (-1, 2))), ("root", (-1, -1, 1), 0))
        self.assertEqual(number_of(2, ((1, 3), (1, 2))), ("root", (-7, -12, 18), 1))
        self.assertEqual(number_of(3, ((0, 1), (2, 3))), ("root", (-4, 0, 3), 1))

    def test_equal_numbers_of_different_fields_are_equal_tuples(self):
        for scale in (1, 2, 3, 10, LONG):
            self.assertEqual(number_of(2 * scale * scale, ((1, 3), (1, 2 * scale))), number_of(2, ((1, 3), (1, 2))))

    def test_elements_stand_for_roots_of_their_equations(self):
        dice = random.Random(14)
        for _ in range(200):
            field = dice.choice((2, 3, 5, 6, 8, 12, 45))
            x = Fraction(dice.randrange(-40, 41), dice.randrange(1, 30))
            y = Fraction(dice.choice((-1, 1)) * dice.randrange(1, 41), dice.randrange(1, 30))
            number = number_of(field, (rational(x), rational(y)))
            self.assertIs(is_number(number), True)
            c, b, a = number[1]
            self.assertEqual(c + b * x + a * (x * x + field * y * y), 0)
            self.assertEqual(b + 2 * a * x, 0)
            self.assertEqual(number[2], 1 if y > 0 else 0)


class SignTest(unittest.TestCase):
    def test_signs(self):
        for number in NUMBERS:
            self.assertEqual(number_sign(number), -side_of(Fraction(0), number), number)

    def test_numbers_near_zero(self):
        # The lesser root of t * t - 2 * k * t + 1 is near to 1 / (2 * k), that of t * t - 2 * k * t - 1 to the opposite.
        k = 10 ** 40
        self.assertEqual(number_sign(("root", (1, -2 * k, 1), 0)), 1)
        self.assertEqual(number_sign(("root", (-1, -2 * k, 1), 0)), -1)
        self.assertEqual(number_sign(("root", (-1, 2 * k, 1), 1)), 1)
        self.assertEqual(number_sign(("root", (1, 2 * k, 1), 1)), -1)

    def test_zero(self):
        self.assertEqual(number_sign(("rational", (0, 1))), 0)


class CompareTest(unittest.TestCase):
    def check(self, first, second, expected):
        self.assertEqual(compare_numbers(first, second), expected, (first, second))
        self.assertEqual(compare_numbers(second, first), -expected, (first, second))

    def test_all_pairs(self):
        for first in NUMBERS:
            for second in NUMBERS:
                self.assertEqual(compare_numbers(first, second), exact_order(first, second), (first, second))

    def test_equal_ones(self):
        for number in NUMBERS:
            self.check(number, number, 0)

    def test_conjugate_ones(self):
        for equation in EQUATIONS:
            self.check(("root", equation, 0), ("root", equation, 1), -1)

    def test_the_same_field(self):
        self.check(("root", (-2, 0, 1), 1), ("root", (-1, -2, 1), 1), -1)
        self.check(("root", (-8, 0, 1), 1), ("root", (-2, 0, 1), 1), 1)
        self.check(("root", (-8, 0, 1), 0), ("root", (-2, 0, 1), 1), -1)

    def test_different_fields(self):
        self.check(ROOT_2, ROOT_3, -1)
        self.check(("root", (-2, 0, 1), 0), ("root", (-3, 0, 1), 0), 1)
        self.check(("root", (-2, 0, 1), 0), ROOT_3, -1)
        # sqrt(2) + 1 and sqrt(3) + 2/3
        self.check(number_of(2, ((1, 1), (1, 1))), number_of(3, ((2, 3), (1, 1))), 1)
        self.check(number_of(2, ((1, 1), (1, 1))), number_of(3, ((7, 10), (1, 1))), -1)

    def test_a_number_and_a_rational_that_differ_by_very_little(self):
        p, q = 1, 1
        for _ in range(150):
            p, q = p + 2 * q, p + q
            above = 1 if p * p > 2 * q * q else -1
            self.check(("rational", rational(Fraction(p, q))), ROOT_2, above)

    def test_numbers_of_different_fields_that_differ_by_very_little(self):
        # sqrt(k * k + 1) and sqrt(k * k + 2) differ by about 1 / (2 * k), and less than that behind shifts.
        k = 10 ** 50
        first = ("root", (-(k * k + 1), 0, 1), 1)
        second = ("root", (-(k * k + 2), 0, 1), 1)
        self.check(first, second, -1)
        gap = Fraction(1, 2 * k)
        shifted = number_of(k * k + 1, (rational(gap), (1, 1)))
        self.check(shifted, second, exact_order(shifted, second))
        for power in (120, 160, 200):
            size = 10 ** power
            near = Fraction(decimals(ROOT_3, size) - decimals(ROOT_2, size), size)
            for shift in (-2, -1, 0, 1, 2):
                moved = number_of(2, (rational(near + Fraction(shift, size)), (1, 1)))
                self.check(moved, ROOT_3, exact_order(moved, ROOT_3))

    def test_random_ones(self):
        dice = random.Random(15)
        pool = []
        for _ in range(60):
            field = dice.choice((2, 3, 5, 8, 18, 27))
            pool.append(number_of(field, (rational(Fraction(dice.randrange(-9, 10), dice.randrange(1, 6))),
                                          rational(Fraction(dice.randrange(-9, 10), dice.randrange(1, 6))))))
        for first in pool:
            for second in pool:
                self.assertEqual(compare_numbers(first, second), exact_order(first, second), (first, second))


class FloorTest(unittest.TestCase):
    def test_the_definition(self):
        for number in NUMBERS:
            for q in (1, 2, 3, 7, 10, 1000, LONG, LONG * 3 + 1):
                m = floor_of(number, q)
                self.assertIsInstance(m, int)
                self.assertLessEqual(side_of(Fraction(m, q), number), 0, (number, q))
                self.assertGreater(side_of(Fraction(m + 1, q), number), 0, (number, q))

    def test_rationals(self):
        self.assertEqual(floor_of(("rational", (7, 2)), 1), 3)
        self.assertEqual(floor_of(("rational", (-7, 2)), 1), -4)
        self.assertEqual(floor_of(("rational", (7, 2)), 2), 7)
        self.assertEqual(floor_of(("rational", (-7, 2)), 2), -7)
        self.assertEqual(floor_of(("rational", (-1, 3)), 1), -1)
        self.assertEqual(floor_of(("rational", (0, 1)), LONG), 0)

    def test_roots(self):
        self.assertEqual(floor_of(ROOT_2, 1), 1)
        self.assertEqual(floor_of(("root", (-2, 0, 1), 0), 1), -2)
        self.assertEqual(floor_of(ROOT_2, 1000), 1414)
        self.assertEqual(floor_of(("root", (-2, 0, 1), 0), 1000), -1415)
        self.assertEqual(floor_of(ROOT_2, 10 ** 29), isqrt(2 * 10 ** 58))
        self.assertEqual(floor_of(("root", (-1, -2, 1), 0), 100), -42)


class WrongArgumentsTest(unittest.TestCase):
    def test_fields(self):
        for value in ODD_VALUES + (1, 4, -2, True, (2, 1), "2"):
            self.assertEqual(error_of(number_of, value, ((0, 1), (0, 1))), ("BadValue", "field"), value)

    def test_elements(self):
        for field in (0, 2):
            for value in ODD_VALUES + (1, (1, 2), ((2, 4), (0, 1)), ((1, 2), (0, 1), (0, 1)), [(1, 2), (0, 1)]):
                self.assertEqual(error_of(number_of, field, value), ("BadValue", "element"), value)
        self.assertEqual(error_of(number_of, 0, ((1, 1), (1, 1))), ("BadValue", "element"))

    def test_the_field_comes_ahead_of_the_element(self):
        self.assertEqual(error_of(number_of, 4, None), ("BadValue", "field"))
        self.assertEqual(error_of(number_of, True, ((1, 2),)), ("BadValue", "field"))

    def test_numbers(self):
        for value in NO_NUMBERS:
            self.assertEqual(error_of(element_of, value), ("BadValue", "number"), value)
            self.assertEqual(error_of(number_sign, value), ("BadValue", "number"), value)
            self.assertEqual(error_of(floor_of, value, 1), ("BadValue", "number"), value)
            self.assertEqual(error_of(compare_numbers, value, ROOT_2), ("BadValue", "first"), value)
            self.assertEqual(error_of(compare_numbers, ROOT_2, value), ("BadValue", "second"), value)

    def test_the_first_number_comes_ahead_of_the_second(self):
        self.assertEqual(error_of(compare_numbers, ("root", (-2, 0, 1), True), None), ("BadValue", "first"))
        self.assertEqual(error_of(compare_numbers, None, ("rational", (2, 4))), ("BadValue", "first"))

    def test_q(self):
        for value in ODD_VALUES + (0, -1, -LONG, (1, 1), "1"):
            for number in (ROOT_2, ("rational", (1, 2))):
                self.assertEqual(error_of(floor_of, number, value), ("BadValue", "q"), value)

    def test_the_number_comes_ahead_of_q(self):
        self.assertEqual(error_of(floor_of, ("rational", (2, 4)), 0), ("BadValue", "number"))

    def test_right_arguments_raise_nothing(self):
        self.assertIsNone(error_of(floor_of, ROOT_2, 1))
        self.assertIsNone(error_of(compare_numbers, ROOT_2, ROOT_3))
        self.assertIsNone(error_of(number_of, 3, ((1, 2), (1, 2))))


class DifferenceTest(unittest.TestCase):
    def test_an_order_within_a_field_is_that_of_the_difference(self):
        dice = random.Random(12)
        for _ in range(100):
            a, b = [(rational(Fraction(dice.randrange(-50, 51), 7)), rational(Fraction(dice.randrange(-50, 51), 5)))
                    for _ in range(2)]
            difference = number_of(3, subtract(3, a, b))
            self.assertEqual(compare_numbers(number_of(3, a), number_of(3, b)), number_sign(difference))


if __name__ == "__main__":
    unittest.main()
