"""The judge of solutions: it accepts by simple calculations, and what it accepts are the chances."""

from oddscall.equations import all_unknowns, terms_at
from oddscall.errors import BadValue
from oddscall.fields import is_element, is_field
from oddscall.loose import LOOSE_ZERO, are_same, loose_opposite, loose_product, loose_sign, loose_sum, loosened
from oddscall.parts import told_parts
from oddscall.slopes import right_side_of, slopes_of, values_below


def accepts(graph, solution):
    """Return True if the solution is an accepted solution of the graph."""
    live, found = told_parts(graph)
    curved = [part for part, is_curved, _ in found if is_curved]
    if not is_solution(graph, curved, solution):
        return False
    field, values, rows = solution
    table = values_below(graph, values)
    if not are_positive(field, live, table) or not are_balanced(graph, field, table):
        return False
    return all(is_fitting(field, live, part, row, table) for part, row in zip(curved, rows))


def check_solution(graph, solution):
    """Raise an error if the graph is not a told chain, or the solution is not accepted for it."""
    if not accepts(graph, solution):
        raise BadValue("solution")


def is_solution(graph, curved, value):
    """Return True if the value has the form of a solution of a graph with these curved parts."""
    if not isinstance(value, tuple) or len(value) != 3:
        return False
    field, values, rows = value
    if not is_field(field) or not is_tuple_of(values, len(graph.procedures)):
        return False
    for (exits, points), below in zip(graph.procedures, values):
        if not is_tuple_of(below, len(points)) or not all(is_row(field, row, exits + 2) for row in below):
            return False
    if not is_tuple_of(rows, len(curved)):
        return False
    return all(is_row(field, row, len(part)) for part, row in zip(curved, rows))


def is_tuple_of(value, many):
    """Return True if the value is a tuple of so many items."""
    return isinstance(value, tuple) and len(value) == many


def is_row(field, value, many):
    """Return True if the value is a tuple of so many elements of the field."""
    return is_tuple_of(value, many) and all(is_element(field, item) for item in value)


def are_positive(field, live, table):
    """Return True if just the values of the positive unknowns are greater than 0, and all others are 0."""
    for unknown, value in table.items():
        if loose_sign(field, value) != (1 if unknown in live else 0):
            return False
    return True


def are_balanced(graph, field, table):
    """Return True if the value of each unknown equals the right side of its equation."""
    for unknown in all_unknowns(graph):
        if not are_same(table[unknown], right_side_of(field, terms_at(graph, unknown), table)):
            return False
    return True


def is_fitting(field, live, part, row, table):
    """Return True if the row is positive, and the slopes of the part do not raise it anywhere."""
    weights = [loosened(item) for item in row]
    if not all(loose_sign(field, weight) > 0 for weight in weights):
        return False
    raised = {unknown: LOOSE_ZERO for unknown in part}
    for unknown, weight in zip(part, weights):
        for factor, slope in slopes_of(field, live[unknown], table).items():
            if factor in raised:
                raised[factor] = loose_sum(raised[factor], loose_product(field, weight, slope))
    for unknown, weight in zip(part, weights):
        if loose_sign(field, loose_sum(weight, loose_opposite(raised[unknown]))) < 0:
            return False
    return True
