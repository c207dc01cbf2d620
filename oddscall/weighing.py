"""The rows of curved parts, which show that the values are the least ones."""

from oddscall.fields import NOUGHT, UNIT, add, multiply, subtract
from oddscall.linear import linear_solution
from oddscall.loose import loosened, tightened
from oddscall.slopes import slopes_of


def row_beside(field, live, groups, part, cut, values):
    """Return the row of a curved part with a cut and the groups beside it: how fast the cut grows with each unknown.

    For all unknowns but the cut, the weighted slopes add up to just the number in the row. For the cut they add up
    to the slope of t = a + b * t + c * t * t at its lesser root, which is at most 1.
    """
    slopes = {unknown: inner_slopes(field, live[unknown], part, values) for unknown in part}
    row = {cut: UNIT}
    totals = {unknown: NOUGHT for unknown in part}
    spread(field, totals, slopes[cut], UNIT)
    for group in reversed(groups):
        found = group_row(field, group, slopes, totals)
        for unknown, weight in zip(group, found):
            row[unknown] = weight
            spread(field, totals, slopes[unknown], weight)
    return tuple([row[unknown] for unknown in part])


def inner_slopes(field, terms, part, values):
    """Return a dict with the slopes of the live terms of an unknown in the unknowns of its part."""
    table = {factor: loosened(values[factor]) for _, factors in terms for factor in factors}
    found = slopes_of(field, terms, table)
    return {unknown: tightened(found[unknown]) for unknown in part if unknown in found}


def spread(field, totals, slopes, weight):
    """Add the weighted slopes of an unknown to the totals."""
    for unknown, slope in slopes.items():
        totals[unknown] = add(field, totals[unknown], multiply(field, weight, slope))


def group_row(field, group, slopes, totals):
    """Return the list of the numbers in the row for a group, from the totals of what comes after it."""
    rows = []
    for column, unknown in enumerate(group):
        row = {column: UNIT}
        for other, source in enumerate(group):
            if unknown in slopes[source]:
                row[other] = subtract(field, row.get(other, NOUGHT), slopes[source][unknown])
        rows.append(row)
    if rows == [{0: UNIT}]:
        return [totals[group[0]]]
    found = linear_solution(field, rows, [(totals[unknown],) for unknown in group])
    return [numbers[0] for numbers in found]
