"""Rationals: pairs of integers in lowest terms, the second one at least 1."""

from math import gcd

from oddscall.errors import BadValue
from oddscall.wholes import is_whole, whole_sign

ZERO = (0, 1)
ONE = (1, 1)


def ratio(n, d):
    """Return the rational n divided by d."""
    if d == 0:
        raise BadValue("d")
    shared = gcd(n, d)
    if d < 0:
        shared = -shared
    return (n // shared, d // shared)


def plus(a, b):
    """Return the sum of two rationals."""
    shared = gcd(a[1], b[1])
    left = a[1] // shared
    top = a[0] * (b[1] // shared) + b[0] * left
    # Only a divisor of what the denominators share can divide the sum: large numbers are divided less often so.
    again = gcd(top, shared)
    return (top // again, left * (b[1] // again))


def minus(a, b):
    """Return the difference of two rationals."""
    return plus(a, opposite(b))


def times(a, b):
    """Return the product of two rationals."""
    first = gcd(a[0], b[1])
    second = gcd(b[0], a[1])
    return ((a[0] // first) * (b[0] // second), (a[1] // second) * (b[1] // first))


def over(a, b):
    """Return the quotient of two rationals."""
    if b[0] == 0:
        raise BadValue("b")
    return times(a, (b[1], b[0]) if b[0] > 0 else (-b[1], -b[0]))


def less(a, b):
    """Return True if the first rational is less than the second one."""
    return a[0] * b[1] < b[0] * a[1]


def opposite(a):
    """Return the rational -a."""
    return (-a[0], a[1])


def rational_sign(a):
    """Return the sign of a rational: 1, 0 or -1."""
    return whole_sign(a[0])


def is_rational(x):
    """Return True if the value is a rational."""
    if not isinstance(x, tuple) or len(x) != 2:
        return False
    n, d = x
    return is_whole(n) and is_whole(d) and d >= 1 and gcd(n, d) == 1
