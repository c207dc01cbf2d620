"""The checks of arguments that several chapters share."""

from oddscall.errors import BadValue, NotTold
from oddscall.graphs import Graph
from oddscall.numbers import is_number
from oddscall.rationals import is_rational
from oddscall.wholes import is_index

GREATEST_DEPTH = 40


def check_graph(graph):
    """Raise BadValue if the argument is not a Graph."""
    if not isinstance(graph, Graph):
        raise BadValue("graph")


def check_chain(graph):
    """Raise an error if the argument is not a Graph without choices."""
    check_graph(graph)
    if not graph.is_chain():
        raise NotTold(("choices",))


def check_place(graph, place):
    """Raise BadValue if the argument is not a place of the graph."""
    if not graph.is_place(place):
        raise BadValue("place")


def check_way(graph, place, way):
    """Raise BadValue if the argument is not a way of the place."""
    if not is_way(graph, place, way):
        raise BadValue("way")


def is_way(graph, place, value):
    """Return True if the value is a way of the place."""
    return is_index(value, len(graph.ways(place)))


def check_depth(depth):
    """Raise BadValue if the argument is not a depth."""
    if not is_index(depth, GREATEST_DEPTH + 1):
        raise BadValue("depth")


def check_unknown(graph, unknown):
    """Raise BadValue if the argument is not an unknown of the graph."""
    if not isinstance(unknown, tuple) or len(unknown) != 3:
        raise BadValue("unknown")
    place = (unknown[0], unknown[1])
    if not graph.is_place(place) or not is_way(graph, place, unknown[2]):
        raise BadValue("unknown")


def check_ways(graph, place, ways):
    """Raise BadValue if the argument is not a tuple of ways of the place in strictly ascending order."""
    if not isinstance(ways, tuple) or not all(is_way(graph, place, way) for way in ways):
        raise BadValue("ways")
    if list(ways) != sorted(set(ways)):
        raise BadValue("ways")


def check_pair(graph, value, name):
    """Raise BadValue with this name if the value is not a pair of a place and one of its ways."""
    if not isinstance(value, tuple) or len(value) != 2 or not graph.is_place(value[0]):
        raise BadValue(name)
    if not is_way(graph, value[0], value[1]):
        raise BadValue(name)


def check_short_number(number):
    """Raise BadValue if the argument is not a number whose integers are short."""
    if not is_number(number) or not all(is_short(n) for n in number[1]):
        raise BadValue("number")


def check_short_rational(rational):
    """Raise BadValue if the argument is not a rational whose integers are short."""
    if not is_rational(rational) or not all(is_short(n) for n in rational):
        raise BadValue("rational")


def is_short(n):
    """Return True if the integer has at most 30 digits."""
    return abs(n) < 10 ** 30
