"""Polynomials over a field: tuples of their coefficients, that of the degree 0 first."""

from oddscall.fields import NOUGHT, add, multiply


def poly_sum(field, p, q):
    """Return the sum of two polynomials."""
    many = max(len(p), len(q))
    return tuple([add(field, a, b) for a, b in zip(padded(p, many), padded(q, many))])


def poly_product(field, p, q):
    """Return the product of two polynomials."""
    found = [NOUGHT] * (len(p) + len(q) - 1)
    for at, a in enumerate(p):
        for more, b in enumerate(q):
            found[at + more] = add(field, found[at + more], multiply(field, a, b))
    return tuple(found)


def poly_at(field, p, element):
    """Return the value of the polynomial at an element."""
    total = NOUGHT
    for coefficient in reversed(p):
        total = add(field, multiply(field, total, element), coefficient)
    return total


def padded(p, many):
    """Return the polynomial with so many coefficients, the last of which may be 0."""
    return p + (NOUGHT,) * (many - len(p))
