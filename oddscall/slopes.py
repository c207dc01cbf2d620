"""The right sides of the equations of a told chain, and their slopes, with values put in for the unknowns."""

from oddscall.equations import terms_at
from oddscall.loose import LOOSE_ZERO, loose_product, loose_sum, loosened, tightened
from oddscall.parts import told_parts


def right_side(graph, unknown, field, values):
    """Return the right side of the equation of the unknown, an element of the field."""
    told_parts(graph)
    return tightened(right_side_of(field, terms_at(graph, unknown), values_below(graph, values)))


def slope(graph, first, second, field, values):
    """Return the slope of the equation of the first unknown in the second one, an element of the field."""
    live, _ = told_parts(graph)
    found = slopes_of(field, live.get(first, []), values_below(graph, values))
    return tightened(found.get(second, LOOSE_ZERO))


def values_below(graph, values):
    """Return a dict with the value of each unknown as a loose number."""
    found = {}
    for number, index in graph.places():
        for way, element in enumerate(values[number][index]):
            found[number, index, way] = loosened(element)
    return found


def right_side_of(field, terms, table):
    """Return the total of the terms with the loose values of a table, a loose number."""
    total = LOOSE_ZERO
    for chance, factors in terms:
        total = loose_sum(total, product_of(field, chance, factors, table))
    return total


def slopes_of(field, terms, table):
    """Return a dict with the slopes in all factors of the live terms of an unknown, as loose numbers."""
    found = {}
    for chance, factors in terms:
        for at, factor in enumerate(factors):
            part = product_of(field, chance, factors[:at] + factors[at + 1:], table)
            found[factor] = loose_sum(found.get(factor, LOOSE_ZERO), part)
    return found


def product_of(field, chance, factors, table):
    """Return the product of a rational and the loose values of the factors."""
    found = (chance[0], 0, chance[1])
    for factor in factors:
        found = loose_product(field, found, table[factor])
    return found
