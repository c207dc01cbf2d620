"""Integers as the document means them: True and False are none."""

from math import isqrt


def is_whole(value):
    """Return True if the value is an integer."""
    return isinstance(value, int) and not isinstance(value, bool)


def is_index(value, many):
    """Return True if the value is an integer from 0 to many - 1."""
    return is_whole(value) and 0 <= value < many


def square_root(n):
    """Return the integer from 0 whose square is n, or None if there is none."""
    if n < 0:
        return None
    root = isqrt(n)
    return root if root * root == n else None


def whole_sign(n):
    """Return the sign of an integer: 1, 0 or -1."""
    if n == 0:
        return 0
    return 1 if n > 0 else -1
