"""The checks of arguments that several chapters share."""

from oddscall.errors import BadValue, NotTold
from oddscall.graphs import Graph
from oddscall.wholes import is_index

GREATEST_DEPTH = 40


def check_graph(graph):
    """Raise BadValue if the argument is not a Graph."""
    if not isinstance(graph, Graph):
        raise BadValue("graph")


def check_chain(graph):
    """Raise an error if the argument is not a Graph without choices."""
    check_graph(graph)
    if not graph.is_chain():
        raise NotTold(("choices",))


def check_place(graph, place):
    """Raise BadValue if the argument is not a place of the graph."""
    if not graph.is_place(place):
        raise BadValue("place")


def check_way(graph, place, way):
    """Raise BadValue if the argument is not a way of the place."""
    if not is_index(way, len(graph.ways(place))):
        raise BadValue("way")


def check_depth(depth):
    """Raise BadValue if the argument is not a depth."""
    if not is_index(depth, GREATEST_DEPTH + 1):
        raise BadValue("depth")


def check_unknown(graph, unknown):
    """Raise BadValue if the argument is not an unknown of the graph."""
    if not isinstance(unknown, tuple) or len(unknown) != 3:
        raise BadValue("unknown")
    place = (unknown[0], unknown[1])
    if not graph.is_place(place) or not is_index(unknown[2], len(graph.ways(place))):
        raise BadValue("unknown")
