"""Points 11 to 13 and 18, and oddscall/fields.py."""

import random
import unittest
from fractions import Fraction
from math import isqrt

from oddscall.fields import add, divide, is_element, is_field, multiply, root_of, sign_of, subtract
from tests.helpers import ODD_VALUES, error_of, rational

NOUGHT = ((0, 1), (0, 1))
FIELDS = (0, 2, 3, 5, 8, 12, 50, 10 ** 24 + 1)
PARTS = (Fraction(0), Fraction(1), Fraction(-1), Fraction(3, 2), Fraction(-7, 5), Fraction(10 ** 30 + 1, 3))


def samples(field):
    """Return elements of the field with positive, negative and zero parts."""
    rooted = PARTS if field else PARTS[:1]
    return [(rational(x), rational(y)) for x in PARTS for y in rooted]


def exact_sign(field, a):
    """Return the sign of an element, from squares of fractions of Python's own."""
    x, y = Fraction(*a[0]), Fraction(*a[1])
    if x >= 0 and y >= 0:
        return 1 if x or y and field else 0
    if x <= 0 and y <= 0:
        return -1
    if x > 0:
        return 1 if x * x > field * y * y else -1
    return 1 if field * y * y > x * x else -1


def convergents(field, many):
    """Return pairs (p, q) with p / q nearer and nearer to the square root of a small field."""
    found = []
    p, q = 1, 1
    for _ in range(many):
        p, q = p + field * q, p + q
        found.append((p, q))
    return found


class IsFieldTest(unittest.TestCase):
    def test_zero_and_integers_that_are_no_squares(self):
        for value in (0, 2, 3, 5, 6, 7, 8, 10, 12, 15, 17, 99):
            self.assertIs(is_field(value), True, value)

    def test_squares(self):
        for root in range(1, 40):
            self.assertIs(is_field(root * root), False, root)

    def test_long_integers(self):
        for root in (10 ** 13 + 37, 3 ** 61, 10 ** 150 + 1):
            self.assertIs(is_field(root * root), False)
            self.assertIs(is_field(root * root + 1), True)
            self.assertIs(is_field(root * root - 1), True)

    def test_negative_integers(self):
        for value in (-1, -2, -4, -9, -10 ** 30):
            self.assertIs(is_field(value), False, value)

    def test_values_that_are_no_integers(self):
        for value in ODD_VALUES + ((2, 1), "2", [2], (2,)):
            self.assertIs(is_field(value), False, value)


class IsElementTest(unittest.TestCase):
    def test_what_belongs_to_a_field(self):
        for field in FIELDS:
            for value in samples(field):
                self.assertIs(is_element(field, value), True, (field, value))

    def test_in_the_field_0_there_are_no_roots(self):
        self.assertIs(is_element(0, ((1, 2), (0, 1))), True)
        self.assertIs(is_element(0, NOUGHT), True)
        for y in ((1, 1), (-1, 2), (1, 3)):
            self.assertIs(is_element(0, ((1, 2), y)), False)
            self.assertIs(is_element(2, ((1, 2), y)), True)

    def test_values_that_are_none(self):
        for field in (0, 2, 12):
            for value in ODD_VALUES + (
                    0, 1, (1, 2), [(1, 2), (0, 1)], ((1, 2),), ((1, 2), (0, 1), (0, 1)), ((2, 4), (0, 1)),
                    ((1, 2), (0, 2)), ((1, 2), 0), (0, (0, 1)), ([1, 2], (0, 1)), ((1, 2), [0, 1]), ((True, 1), (0, 1)),
                    ((1, 1), (False, 1)), ((1, 0), (0, 1)), ((1, 2), (0, -1)), ((1, 2), None), (None, (0, 1)), "ab"):
                self.assertIs(is_element(field, value), False, (field, value))


class ArithmeticTest(unittest.TestCase):
    def test_sums_and_differences(self):
        for field in FIELDS:
            for a in samples(field):
                for b in samples(field):
                    x, y, u, v = Fraction(*a[0]), Fraction(*a[1]), Fraction(*b[0]), Fraction(*b[1])
                    self.assertEqual(add(field, a, b), (rational(x + u), rational(y + v)))
                    self.assertEqual(subtract(field, a, b), (rational(x - u), rational(y - v)))

    def test_products(self):
        for field in FIELDS:
            for a in samples(field):
                for b in samples(field):
                    x, y, u, v = Fraction(*a[0]), Fraction(*a[1]), Fraction(*b[0]), Fraction(*b[1])
                    product = (rational(x * u + field * y * v), rational(x * v + y * u))
                    self.assertEqual(multiply(field, a, b), product)

    def test_quotients(self):
        for field in FIELDS:
            for a in samples(field):
                for b in samples(field):
                    if b != NOUGHT:
                        quotient = divide(field, a, b)
                        self.assertIs(is_element(field, quotient), True)
                        self.assertEqual(multiply(field, quotient, b), a)

    def test_no_quotient_by_zero(self):
        for field in FIELDS:
            for a in samples(field):
                self.assertEqual(error_of(divide, field, a, NOUGHT), ("BadValue", "b"))

    def test_the_root_alone_is_a_divisor(self):
        self.assertEqual(divide(2, ((1, 1), (0, 1)), ((0, 1), (1, 1))), ((0, 1), (1, 2)))


class SignTest(unittest.TestCase):
    def test_all_combinations_of_parts(self):
        for field in FIELDS:
            for a in samples(field):
                self.assertEqual(sign_of(field, a), exact_sign(field, a), (field, a))

    def test_zero(self):
        for field in FIELDS:
            self.assertEqual(sign_of(field, NOUGHT), 0)

    def test_the_result_is_an_integer(self):
        for a in (((1, 1), (0, 1)), ((-1, 1), (0, 1)), NOUGHT, ((3, 2), (-1, 1))):
            self.assertNotIsInstance(sign_of(2, a), bool)
            self.assertIsInstance(sign_of(2, a), int)

    def test_elements_very_near_to_zero(self):
        for field in (2, 3, 5, 7):
            for p, q in convergents(field, 120):
                above = 1 if p * p > field * q * q else -1
                self.assertEqual(sign_of(field, ((p, 1), (-q, 1))), above)
                self.assertEqual(sign_of(field, ((-p, 1), (q, 1))), -above)
                self.assertEqual(sign_of(field, ((p, 3 * q), (-1, 3))), above)

    def test_the_nearest_decimals(self):
        for field in (2, 10 ** 24 + 1, 10 ** 41 + 3):
            size = 10 ** 80
            below = isqrt(field * size * size)
            for shift, expected in ((0, -1), (1, 1)):
                self.assertEqual(sign_of(field, (rational(Fraction(below + shift, size)), (-1, 1))), expected)


class RootTest(unittest.TestCase):
    def test_squares_have_their_root_that_is_not_negative(self):
        for field in FIELDS:
            for a in samples(field):
                square = multiply(field, a, a)
                opposite = subtract(field, NOUGHT, a)
                expected = a if exact_sign(field, a) >= 0 else opposite
                self.assertEqual(root_of(field, square), expected, (field, a))

    def test_random_squares(self):
        dice = random.Random(13)
        for _ in range(300):
            field = dice.choice(FIELDS[1:])
            x, y = [Fraction(dice.randrange(-30, 31), dice.randrange(1, 20)) for _ in range(2)]
            a = (rational(x), rational(y))
            expected = a if exact_sign(field, a) >= 0 else (rational(-x), rational(-y))
            self.assertEqual(root_of(field, multiply(field, a, a)), expected)

    def test_zero(self):
        for field in FIELDS:
            self.assertEqual(root_of(field, NOUGHT), NOUGHT)

    def test_negative_elements_have_none(self):
        for field in FIELDS:
            for a in samples(field):
                if exact_sign(field, a) < 0:
                    self.assertIsNone(root_of(field, a), (field, a))

    def test_rationals_in_the_field_0(self):
        self.assertEqual(root_of(0, ((9, 4), (0, 1))), ((3, 2), (0, 1)))
        for r in ((2, 1), (1, 2), (4, 3), (3, 4), (-1, 1), (-4, 9), (8, 1)):
            self.assertIsNone(root_of(0, (r, (0, 1))), r)

    def test_rationals_in_other_fields(self):
        self.assertEqual(root_of(2, ((2, 1), (0, 1))), ((0, 1), (1, 1)))
        self.assertEqual(root_of(2, ((9, 4), (0, 1))), ((3, 2), (0, 1)))
        self.assertEqual(root_of(2, ((1, 2), (0, 1))), ((0, 1), (1, 2)))
        self.assertEqual(root_of(8, ((2, 1), (0, 1))), ((0, 1), (1, 2)))
        self.assertEqual(root_of(12, ((1, 3), (0, 1))), ((0, 1), (1, 6)))
        for field, r in ((3, (2, 1)), (2, (3, 1)), (2, (6, 1)), (2, (-1, 1)), (2, (-2, 1)), (2, (-4, 1)), (3, (-3, 4))):
            self.assertIsNone(root_of(field, (r, (0, 1))), (field, r))

    def test_elements_without_a_root(self):
        for field, a in ((2, ((1, 1), (1, 1))), (2, ((0, 1), (1, 1))), (2, ((3, 1), (1, 1))), (3, ((3, 1), (2, 1))),
                         (7, ((4, 1), (1, 1))), (5, ((7, 1), (3, 1)))):
            self.assertIsNone(root_of(field, a), (field, a))

    def test_a_norm_that_is_a_square_is_not_enough(self):
        # The norm of 9 + 6 * sqrt(2) is 9 and that of 6 + 4 * sqrt(2) is 4, but only the second one is a square.
        self.assertIsNone(root_of(2, ((9, 1), (6, 1))))
        self.assertEqual(root_of(2, ((6, 1), (4, 1))), ((2, 1), (1, 1)))
        self.assertEqual(root_of(2, ((6, 1), (-4, 1))), ((2, 1), (-1, 1)))

    def test_both_signs_of_the_root_of_the_norm(self):
        # 2 * p * p is 6 + 2 in the first case, and 3 - 1 in the second one.
        self.assertEqual(root_of(2, ((3, 1), (2, 1))), ((1, 1), (1, 1)))
        self.assertEqual(root_of(2, ((3, 1), (-2, 1))), ((-1, 1), (1, 1)))
        self.assertEqual(root_of(3, ((4, 1), (2, 1))), ((1, 1), (1, 1)))

    def test_every_answer_is_right_in_a_whole_range(self):
        for field in (2, 3, 5, 8):
            squares = {}
            for x in range(-8, 9):
                for y in range(-8, 9):
                    a = (rational(Fraction(x, 2)), rational(Fraction(y, 2)))
                    squares[multiply(field, a, a)] = True
            for x in range(0, 9):
                for y in range(-5, 6):
                    a = ((x, 1), (y, 1))
                    root = root_of(field, a)
                    self.assertIs(root is not None, a in squares, (field, a))
                    if root is not None:
                        self.assertEqual(multiply(field, root, root), a)
                        self.assertGreaterEqual(exact_sign(field, root), 0)


if __name__ == "__main__":
    unittest.main()
