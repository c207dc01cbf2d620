"""Fields: the numbers x + y * sqrt(D), with rationals x and y."""

from oddscall.errors import BadValue
from oddscall.loose import loose_sign, loosened
from oddscall.rationals import ZERO, is_rational, minus, opposite, over, plus, times
from oddscall.wholes import is_whole, square_root

HALF = (1, 2)
NOUGHT = ((0, 1), (0, 1))
UNIT = ((1, 1), (0, 1))


def is_field(x):
    """Return True if the value is a field."""
    if not is_whole(x):
        return False
    return x == 0 or (x > 0 and square_root(x) is None)


def is_element(field, x):
    """Return True if the value is an element of the field."""
    if not isinstance(x, tuple) or len(x) != 2:
        return False
    if not is_rational(x[0]) or not is_rational(x[1]):
        return False
    return field != 0 or x[1] == ZERO


def add(field, a, b):
    """Return the sum of two elements of the field."""
    return (plus(a[0], b[0]), plus(a[1], b[1]))


def subtract(field, a, b):
    """Return the difference of two elements of the field."""
    return (minus(a[0], b[0]), minus(a[1], b[1]))


def multiply(field, a, b):
    """Return the product of two elements of the field."""
    if b[1] == ZERO:
        return (times(a[0], b[0]), times(a[1], b[0]))
    plain = times(a[0], b[0])
    rooted = times((field, 1), times(a[1], b[1]))
    return (plus(plain, rooted), plus(times(a[0], b[1]), times(a[1], b[0])))


def divide(field, a, b):
    """Return the quotient of two elements of the field."""
    if b == NOUGHT:
        raise BadValue("b")
    # The norm is not 0, as the field is not the square of a rational.
    size = norm(field, b)
    return multiply(field, a, (over(b[0], size), over(opposite(b[1]), size)))


def norm(field, a):
    """Return the product of x + y * sqrt(D) and x - y * sqrt(D), a rational."""
    return minus(times(a[0], a[0]), times((field, 1), times(a[1], a[1])))


def sign_of(field, a):
    """Return the sign of an element of the field."""
    return loose_sign(field, loosened(a))


def root_of(field, a):
    """Return the root of the element within the field, or None if there is none."""
    if a[1] == ZERO:
        return root_of_rational(field, a[0])
    middle = rational_root(norm(field, a))
    if middle is None:
        return None
    # If p + q * sqrt(D) is a root, 2 * p * p is x plus or minus the root of the norm, and 2 * p * q is y.
    for doubled in (plus(a[0], middle), minus(a[0], middle)):
        p = rational_root(times(doubled, HALF))
        if p is not None:
            return not_negative(field, (p, over(a[1], plus(p, p))))
    return None


def root_of_rational(field, r):
    """Return the root of a rational within the field, or None if there is none."""
    root = rational_root(r)
    if root is not None:
        return (root, ZERO)
    if field == 0:
        return None
    root = rational_root(over(r, (field, 1)))
    return None if root is None else (ZERO, root)


def rational_root(r):
    """Return the rational from 0 whose square is r, or None if there is none."""
    n = square_root(r[0])
    d = square_root(r[1])
    return None if n is None or d is None else (n, d)


def not_negative(field, a):
    """Return the element, or its opposite if it is negative."""
    if sign_of(field, a) < 0:
        return (opposite(a[0]), opposite(a[1]))
    return a
