"""Expressions, conditions and rationals, as they are read from tokens."""

from oddscall.rationals import ZERO, ratio
from oddscall.readers import A_NAME, A_NUMBER

MOST_REPETITIONS = 8

# Words for tokens, with what an operation or a comparison of this kind is called.
SUMS = (('"+"', "plus"), ('"-"', "minus"))
PRODUCTS = (('"*"', "times"),)
JUNCTIONS = (("or", "or"),)
CONJUNCTIONS = (("and", "and"),)
COMPARISONS = (('"="', "="), ('"!="', "!="), ('"<"', "<"), ('"<="', "<="), ('">"', ">"), ('">="', ">="))


def sees_expression(reader):
    """Return True if an expression begins at the place of the reader."""
    return any([reader.sees(word) for word in (A_NUMBER, A_NAME, '"("')])


def read_expression(reader):
    """Return the expression at the place of the reader, which goes on behind it."""
    return read_operations(reader, SUMS, read_product)


def read_product(reader):
    """Return the product at the place of the reader."""
    return read_operations(reader, PRODUCTS, read_factor)


def read_factor(reader):
    """Return the number, the name, or the expression in parentheses at the place of the reader."""
    if reader.sees(A_NUMBER):
        return ("int", int(reader.needs(A_NUMBER)))
    if reader.sees(A_NAME):
        return ("name", read_known_name(reader))
    reader.needs('"("')
    inner = read_expression(reader)
    reader.needs('")"')
    return inner


def read_known_name(reader):
    """Return the name of a variable at the place of the reader, and note if there is no such variable."""
    at = reader.at
    name = reader.needs(A_NAME)
    if name not in reader.names:
        reader.note(at, "this name is unknown")
    return name


def read_condition(reader):
    """Return the condition at the place of the reader."""
    return read_operations(reader, JUNCTIONS, read_conjunction)


def read_conjunction(reader):
    """Return the conjunction at the place of the reader."""
    return read_operations(reader, CONJUNCTIONS, read_literal)


def read_literal(reader):
    """Return the condition without any and or or at the place of the reader."""
    if reader.takes("not"):
        return ("not", read_atom(reader))
    return read_atom(reader)


def read_atom(reader):
    """Return the comparison, or the condition in brackets, at the place of the reader."""
    if reader.takes('"["'):
        inner = read_condition(reader)
        reader.needs('"]"')
        return inner
    left = read_expression(reader)
    sign = taken_kind(reader, COMPARISONS)
    if sign is None:
        reader.fail()
    return comparison(sign, left, read_expression(reader))


def comparison(sign, left, right):
    """Return the condition that compares two expressions."""
    if sign == "=":
        return ("eq", left, right)
    if sign == "!=":
        return ("not", ("eq", left, right))
    if sign in ("<", ">"):
        return ("lt", left, right) if sign == "<" else ("lt", right, left)
    return ("le", left, right) if sign == "<=" else ("le", right, left)


def read_operations(reader, kinds, read_operand):
    """Return what stands at the place of the reader: operands with operations of these kinds, from the left."""
    left = read_operand(reader)
    for _ in range(MOST_REPETITIONS):
        at = reader.at
        kind = taken_kind(reader, kinds)
        if kind is None:
            return left
        if depth_of(left, kinds) >= MOST_REPETITIONS:
            reader.note(at, "too many operands")
        left = (kind, left, read_operand(reader))
    return left


def taken_kind(reader, kinds):
    """Go on behind a token of one of these kinds, and return what it is called, or None if there is none."""
    for word, kind in kinds:
        if reader.takes(word):
            return kind
    return None


def depth_of(tree, kinds):
    """Return how many operations of these kinds deep the operand is."""
    names = [kind for _, kind in kinds]
    depth = 0
    while tree[0] in names:
        depth += 1
        tree = tree[1]
    return depth


def read_rational(reader):
    """Return the rational at the place of the reader; a denominator 0 is noted."""
    at = reader.at
    n = int(reader.needs(A_NUMBER))
    d = int(reader.needs(A_NUMBER)) if reader.takes('"/"') else 1
    if d == 0:
        reader.note(at, "a denominator is not 0")
        return ZERO
    return ratio(n, d)
