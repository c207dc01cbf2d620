"""Parts of a chain: unknowns that use each other, and whether their chances can be told."""

from oddscall.checks import check_graph, check_unknown
from oddscall.components import ordered_components
from oddscall.cutting import degrees_beside, groups_beside, inner_factors, is_cut
from oddscall.equations import live_terms
from oddscall.errors import BadValue, NotTold
from oddscall.wholes import is_index


def parts(graph):
    """Return the list of the parts in their order, each a tuple: its unknowns, whether it is curved, its cut."""
    return parts_of(live_table(graph))


def cuts(graph, part):
    """Return the list of all cuts of the part in their order."""
    live = live_table(graph)
    found = bare_parts(live)
    if not is_index(part, len(found)):
        raise BadValue("part")
    if not is_curved(live, found[part]):
        return []
    return [unknown for unknown in found[part] if is_cut(live, found[part], unknown)]


def degrees(graph, unknown):
    """Return the list of the degrees beside the unknown, or None if it is no cut."""
    live = live_table(graph)
    check_unknown(graph, unknown)
    part = curved_part_of(live, unknown)
    if part is None or not is_cut(live, part, unknown):
        return None
    table = degrees_beside(live, groups_beside(live, part, unknown), unknown)
    return [table[other] for other in part]


def groups_of(graph, unknown):
    """Return the list of the groups beside the unknown in their order."""
    live = live_table(graph)
    check_unknown(graph, unknown)
    part = curved_part_of(live, unknown)
    if part is None:
        raise BadValue("unknown")
    return groups_beside(live, part, unknown)


def why_not(graph):
    """Return None if the graph is a told chain, otherwise the reason why not."""
    check_graph(graph)
    if not graph.is_chain():
        return ("choices",)
    return reason_of(parts(graph))


def told_parts(graph):
    """Return a dict with the live terms of the positive unknowns and the list of the parts of a told chain."""
    live = live_table(graph)
    found = parts_of(live)
    reason = reason_of(found)
    if reason is not None:
        raise NotTold(reason)
    return (live, found)


def live_table(graph):
    """Return a dict with the list of the live terms of each positive unknown of a chain."""
    return {unknown: terms for unknown, terms in live_terms(graph)}


def parts_of(live):
    """Return the list of the parts of the unknowns with these live terms."""
    found = []
    for part in bare_parts(live):
        curved = is_curved(live, part)
        found.append((part, curved, least_cut(live, part) if curved else None))
    return found


def bare_parts(live):
    """Return the list of the tuples of unknowns of the parts in their order."""
    return ordered_components({unknown: inner_factors(terms, live) for unknown, terms in live.items()})


def is_curved(live, part):
    """Return True if some live term of the part has two factors in it."""
    inside = {unknown: True for unknown in part}
    return any(len(inner_factors([term], inside)) > 1 for unknown in part for term in live[unknown])


def least_cut(live, part):
    """Return the least cut of the curved part, or None if there is none."""
    for unknown in part:
        if is_cut(live, part, unknown):
            return unknown
    return None


def curved_part_of(live, unknown):
    """Return the curved part to which the unknown belongs, or None if there is none."""
    for part in bare_parts(live):
        if unknown in part:
            return part if is_curved(live, part) else None
    return None


def reason_of(found):
    """Return the reason why a chain with these parts is not told, or None if it is."""
    for index, (_, curved, cut) in enumerate(found):
        if curved and cut is None:
            return ("part", index)
    return None
