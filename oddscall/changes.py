"""Graphs under other names, and without what is not reached."""

from oddscall.checks import check_graph
from oddscall.errors import BadValue
from oddscall.graphs import Graph
from oddscall.points import moved_point
from oddscall.wholes import is_index


def renamed(graph, procedures, points):
    """Return the graph in which what had the index order[i] has the index i."""
    check_graph(graph)
    sizes = [len(row) for _, row in graph.procedures]
    if not is_order(procedures) or len(procedures) != len(sizes):
        raise BadValue("procedures")
    if not are_orders(points, len(sizes)) or [len(row) for row in points] != sizes:
        raise BadValue("points")
    return ordered_graph(graph, procedures, points)


def old_place(procedures, points, place):
    """Return the place that a place of the renamed graph was in the old one."""
    if not is_order(procedures):
        raise BadValue("procedures")
    if not are_orders(points, len(procedures)):
        raise BadValue("points")
    if not isinstance(place, tuple) or len(place) != 2 or not is_index(place[0], len(procedures)):
        raise BadValue("place")
    old = procedures[place[0]]
    if not is_index(place[1], len(points[old])):
        raise BadValue("place")
    return (old, points[old][place[1]])


def reached_graph(graph):
    """Return the graph of the places that are reached from the first one, and the list of their old places."""
    check_graph(graph)
    old_places = graph.reached((0, 0))
    rows = {}
    for number, index in old_places:
        rows.setdefault(number, []).append(index)
    return (ordered_graph(graph, list(rows), rows), old_places)


def ordered_graph(graph, order, rows):
    """Return the graph of the procedures in this order, with the points that a table of orders gives for each."""
    numbers = positions_in(order)
    procedures = []
    for old in order:
        exits, points = graph.procedures[old]
        indexes = positions_in(rows[old])
        procedures.append((exits, tuple([moved_point(points[index], numbers, indexes) for index in rows[old]])))
    return Graph(procedures=tuple(procedures))


def positions_in(order):
    """Return the table that gives for each item of an order its position there."""
    return {old: new for new, old in enumerate(order)}


def is_order(value):
    """Return True if the value is a list of all indexes of itself, each once, that begins with 0."""
    if not isinstance(value, list) or not all(is_index(index, len(value)) for index in value):
        return False
    return value[:1] == [0] and sorted(value) == list(range(len(value)))


def are_orders(value, many):
    """Return True if the value is a list of so many orders."""
    return isinstance(value, list) and len(value) == many and all(is_order(row) for row in value)
