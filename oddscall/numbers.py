"""Numbers: rationals, and roots of quadratic equations with integers."""

from math import gcd, isqrt, lcm

from oddscall.errors import BadValue
from oddscall.fields import is_element, is_field, multiply, norm, sign_of
from oddscall.rationals import ZERO, is_rational, minus, ratio, rational_sign, times
from oddscall.wholes import is_index, is_whole


def is_number(x):
    """Return True if the value is a number."""
    if not isinstance(x, tuple) or len(x) == 0 or not isinstance(x[0], str):
        return False
    if x[0] == "rational":
        return len(x) == 2 and is_rational(x[1])
    return x[0] == "root" and len(x) == 3 and is_equation(x[1]) and is_index(x[2], 2)


def is_equation(coefficients):
    """Return True if these are the coefficients of an equation whose real roots are no rationals."""
    if not isinstance(coefficients, tuple) or len(coefficients) != 3:
        return False
    if not all(is_whole(k) for k in coefficients):
        return False
    c, b, a = coefficients
    if a <= 0 or gcd(c, b, a) != 1:
        return False
    inside = discriminant(coefficients)
    return inside > 0 and is_field(inside)


def discriminant(coefficients):
    """Return what stands under the square root in the roots of the equation."""
    c, b, a = coefficients
    return b * b - 4 * a * c


def check_number(value, name):
    """Raise BadValue with this name if the value is not a number."""
    if not is_number(value):
        raise BadValue(name)


def number_of(field, element):
    """Return the number that the element of the field stands for."""
    if not is_field(field):
        raise BadValue("field")
    if not is_element(field, element):
        raise BadValue("element")
    x, y = element
    if y == ZERO:
        return ("rational", x)
    # The element is a root of t * t - 2 * x * t + norm, and the least common denominator leaves no divisor.
    linear = times((-2, 1), x)
    constant = norm(field, element)
    a = lcm(linear[1], constant[1])
    b = linear[0] * (a // linear[1])
    c = constant[0] * (a // constant[1])
    return ("root", (c, b, a), 1 if y[0] > 0 else 0)


def element_of(number):
    """Return the field of the number, and the number as an element of it."""
    check_number(number, "number")
    if number[0] == "rational":
        return (0, (number[1], ZERO))
    _, b, a = number[1]
    side = 1 if number[2] == 1 else -1
    return (discriminant(number[1]), (ratio(-b, 2 * a), ratio(side, 2 * a)))


def number_sign(number):
    """Return the sign of the number: 1, 0 or -1."""
    field, element = element_of(number)
    return sign_of(field, element)


def compare_numbers(first, second):
    """Return -1, 0 or 1, as the first number is less than, equal to or greater than the second one."""
    check_number(first, "first")
    check_number(second, "second")
    field, one = element_of(first)
    other_field, other = element_of(second)
    left = (minus(one[0], other[0]), one[1])
    return compare_with_root(field, left, other_field, other[1])


def compare_with_root(field, left, other_field, factor):
    """Return how an element of a field compares with a rational times the square root of another field."""
    side = sign_of(field, left)
    other_side = rational_sign(factor)
    if side != other_side:
        return 1 if side > other_side else -1
    # On the same side of 0, the one with the greater square is farther from 0.
    square = multiply(field, left, left)
    other_square = times((other_field, 1), times(factor, factor))
    return side * sign_of(field, (minus(square[0], other_square), square[1]))


def floor_of(number, q):
    """Return the greatest integer m such that m / q is not greater than the number."""
    check_number(number, "number")
    if not is_whole(q) or q < 1:
        raise BadValue("q")
    field, element = element_of(number)
    (n, d), (k, e) = element
    # q times the number is the sum of an integer and a whole multiple of the root, over d * e.
    return (q * n * e + floor_of_root(field, q * k * d)) // (d * e)


def floor_of_root(field, k):
    """Return the greatest integer that is not greater than k * sqrt(D)."""
    if k >= 0:
        return isqrt(k * k * field)
    # There is no equality: D is not a square.
    return -1 - isqrt(k * k * field)
