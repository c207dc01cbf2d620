"""Cuts: single unknowns of a curved part from which all others of the part follow by linear equations."""

from oddscall.components import is_looped, ordered_components

MOST_DEGREE = 2


def groups_beside(live, part, cut):
    """Return the list of the groups beside an unknown of the part in their order."""
    return ordered_components(leads_beside(live, part, cut))


def leads_beside(live, part, cut):
    """Return a dict with the list of the unknowns to which each unknown of the part leads beside the cut."""
    rest = {unknown: True for unknown in part if unknown != cut}
    return {unknown: inner_factors(live[unknown], rest) for unknown in rest}


def inner_factors(terms, inside):
    """Return the list of the factors of the terms that are inside."""
    return [factor for _, factors in terms for factor in factors if factor in inside]


def degrees_beside(live, groups, cut):
    """Return a dict with the degrees of the cut and of the unknowns of its groups."""
    table = {cut: 1}
    for group in groups:
        inside = {unknown: True for unknown in group}
        outer = [term for unknown in group for term in live[unknown] if len(inner_factors([term], inside)) == 0]
        degree = max(degree_of(term, table) for term in outer)
        for unknown in group:
            table[unknown] = degree
    return table


def degree_of(term, table):
    """Return the degree of a term. What is not in the table of degrees has the degree 0."""
    return sum(table.get(factor, 0) for factor in term[1])


def is_cut(live, part, unknown):
    """Return True if the unknown of the curved part is a cut of it."""
    leads = leads_beside(live, part, unknown)
    groups = ordered_components(leads)
    inside = {other: True for other in part}
    for group in groups:
        if is_looped(group, leads) and not is_straight(live, group, inside):
            return False
    table = degrees_beside(live, groups, unknown)
    return all(degree_of(term, table) <= MOST_DEGREE for term in live[unknown])


def is_straight(live, group, inside):
    """Return True if no live term of the group has a factor in the group and a second one in the part."""
    members = {unknown: True for unknown in group}
    for unknown in group:
        for term in live[unknown]:
            if len(inner_factors([term], members)) > 0 and len(inner_factors([term], inside)) > 1:
                return False
    return True
