"""The equations of the chances of a chain, and which of them are greater than 0."""

from oddscall.checks import check_chain, check_unknown
from oddscall.rationals import ONE


def unknowns(graph):
    """Return the list of all unknowns of a chain in their order."""
    check_chain(graph)
    return all_unknowns(graph)


def terms_of(graph, unknown):
    """Return the list of the terms of the unknown."""
    check_chain(graph)
    check_unknown(graph, unknown)
    return terms_at(graph, unknown)


def positives(graph):
    """Return the list of the positive unknowns in their order."""
    return [unknown for unknown, _ in live_terms(graph)]


def live_terms(graph):
    """Return the list of the positive unknowns in their order, each with the list of its live terms."""
    check_chain(graph)
    table = {unknown: terms_at(graph, unknown) for unknown in all_unknowns(graph)}
    found = positive_unknowns(table)
    return [(unknown, live_among(table[unknown], found)) for unknown in sorted(found)]


def all_unknowns(graph):
    """Return the list of all unknowns in their order, of a graph that was checked."""
    return [(place[0], place[1], way) for place in graph.places() for way in graph.ways(place)]


def terms_at(graph, unknown):
    """Return the list of the terms of the unknown, both of which were checked."""
    number, index, way = unknown
    exits = graph.procedures[number][0]
    point = graph.point_at((number, index))
    word = point[0]
    if word == "draw":
        return [(chance, ((number, target, way),)) for chance, target in point[1]]
    if word == "reward":
        return [(ONE, ((number, point[2], way),))]
    if word == "call":
        return terms_of_call(graph, number, point, way)
    if word == "exit":
        ended = point[1]
    else:
        ended = exits if word == "reject" else exits + 1
    return [(ONE, ())] if way == ended else []


def terms_of_call(graph, number, call, way):
    """Return the list of the terms of a call in the procedure with this number."""
    _, called, targets = call
    terms = [(ONE, ((called, 0, result), (number, target, way))) for result, target in enumerate(targets)]
    exits = graph.procedures[number][0]
    if way >= exits:
        # Whoever is rejected, or stops, within the called procedure does so as a whole.
        terms.append((ONE, ((called, 0, way - exits + graph.procedures[called][0]),)))
    return terms


def positive_unknowns(table):
    """Return a dict with the positive ones among the unknowns of a table of terms."""
    found = {}
    grown = True
    while grown:
        grown = False
        for unknown, terms in table.items():
            if unknown not in found and len(live_among(terms, found)) > 0:
                found[unknown] = True
                grown = True
    return found


def live_among(terms, found):
    """Return the list of the terms all of whose factors were found."""
    return [term for term in terms if all(factor in found for factor in term[1])]
