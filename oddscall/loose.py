"""Numbers of a field as integers (x, y, d), which stand for (x + y * sqrt(D)) / d with d above 0.

They need not be in lowest terms. To add, multiply and compare a few long numbers so is much quicker than to find
the lowest terms in each step.
"""

from math import gcd, lcm

from oddscall.rationals import ratio
from oddscall.wholes import whole_sign

LOOSE_ZERO = (0, 0, 1)
LOOSE_ONE = (1, 0, 1)


def loosened(element):
    """Return the loose number of an element."""
    (n, d), (k, e) = element
    if d == e:
        return (n, k, d)
    shared = lcm(d, e)
    return (n * (shared // d), k * (shared // e), shared)


def tightened(a):
    """Return the element of a loose number."""
    return (ratio(a[0], a[2]), ratio(a[1], a[2]))


def loose_sum(a, b):
    """Return the sum of two loose numbers."""
    if a[2] == b[2]:
        return (a[0] + b[0], a[1] + b[1], a[2])
    shared = gcd(a[2], b[2])
    left = a[2] // shared
    right = b[2] // shared
    return (a[0] * right + b[0] * left, a[1] * right + b[1] * left, left * b[2])


def loose_product(field, a, b):
    """Return the product of two loose numbers."""
    if a[1] == 0 and b[1] == 0:
        return (a[0] * b[0], 0, a[2] * b[2])
    return (a[0] * b[0] + field * a[1] * b[1], a[0] * b[1] + a[1] * b[0], a[2] * b[2])


def loose_opposite(a):
    """Return the loose number with the other sign."""
    return (-a[0], -a[1], a[2])


def are_same(a, b):
    """Return True if two loose numbers are equal."""
    if a[2] == b[2]:
        return a[0] == b[0] and a[1] == b[1]
    return a[0] * b[2] == b[0] * a[2] and a[1] * b[2] == b[1] * a[2]


def loose_sign(field, a):
    """Return the sign of a loose number: 1, 0 or -1."""
    plain = whole_sign(a[0])
    rooted = whole_sign(a[1])
    if rooted == 0 or plain == rooted:
        return plain
    if plain == 0:
        return rooted
    # The parts pull in opposite directions: the one with the greater square wins.
    return plain * whole_sign(a[0] * a[0] - field * a[1] * a[1])
