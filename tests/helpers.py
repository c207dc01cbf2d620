"""What several tests share: error checks, values of odd kinds, and rationals as fractions of Python's own."""

from fractions import Fraction
from math import gcd

from oddscall.errors import BadGraph, BadValue, NotTold, TextError, TooLarge

# Values of the kinds that the document names, none of which is an integer or a tuple that stands for something.
ODD_VALUES = (None, True, False, "", "a", "rational", (), [], [0, 0], [(0, 0)], ((),), (((), ()), 1))


def fraction(rational):
    """Return a fraction of Python's own, of a tuple that has to be a rational in lowest terms."""
    if not isinstance(rational, tuple) or len(rational) != 2:
        raise AssertionError(f"{rational!r} is no rational")
    n, d = rational
    if not isinstance(n, int) or not isinstance(d, int) or isinstance(n, bool) or isinstance(d, bool):
        raise AssertionError(f"{rational!r} is no rational")
    if d < 1 or gcd(n, d) != 1:
        raise AssertionError(f"{rational!r} is not in lowest terms")
    return Fraction(n, d)


def rational(value):
    """Return the tuple of a fraction."""
    return (Fraction(value).numerator, Fraction(value).denominator)


def error_of(function, *arguments, **named):
    """Return the error that a call raises, as a tuple of its name and its attributes."""
    try:
        function(*arguments, **named)
    except BadValue as e:
        return ("BadValue", e.name)
    except BadGraph as e:
        return ("BadGraph", e.where, e.why)
    except NotTold as e:
        return ("NotTold", e.reason)
    except TooLarge as e:
        return ("TooLarge", e.what)
    except TextError as e:
        return ("TextError", e.line, e.column, e.words)
    return None
