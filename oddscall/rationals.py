"""Rationals: pairs of integers in lowest terms, the second one at least 1."""

from math import gcd

from oddscall.errors import BadValue
from oddscall.wholes import is_whole

ZERO = (0, 1)
ONE = (1, 1)


def ratio(n, d):
    """Return the rational n divided by d."""
    if d == 0:
        raise BadValue("d")
    shared = gcd(n, d)
    if d < 0:
        shared = -shared
    return (n // shared, d // shared)


def plus(a, b):
    """Return the sum of two rationals."""
    return ratio(a[0] * b[1] + b[0] * a[1], a[1] * b[1])


def minus(a, b):
    """Return the difference of two rationals."""
    return ratio(a[0] * b[1] - b[0] * a[1], a[1] * b[1])


def times(a, b):
    """Return the product of two rationals."""
    return ratio(a[0] * b[0], a[1] * b[1])


def over(a, b):
    """Return the quotient of two rationals."""
    if b[0] == 0:
        raise BadValue("b")
    return ratio(a[0] * b[1], a[1] * b[0])


def less(a, b):
    """Return True if the first rational is less than the second one."""
    return a[0] * b[1] < b[0] * a[1]


def opposite(a):
    """Return the rational -a."""
    return (-a[0], a[1])


def rational_sign(a):
    """Return the sign of a rational: 1, 0 or -1."""
    if a[0] == 0:
        return 0
    return 1 if a[0] > 0 else -1


def is_rational(x):
    """Return True if the value is a rational."""
    if not isinstance(x, tuple) or len(x) != 2:
        return False
    n, d = x
    return is_whole(n) and is_whole(d) and d >= 1 and gcd(n, d) == 1
