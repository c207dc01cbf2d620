"""Places of a chain that are alike, the graph in which they are merged, and where masses begin to differ."""

from oddscall.checks import check_chain
from oddscall.errors import BadValue, NotTold
from oddscall.graphs import Graph
from oddscall.masses import scaled_lengths
from oddscall.points import moved_point
from oddscall.problems import is_chance
from oddscall.rationals import ZERO, plus


def alike(graph, one, other):
    """Return True if the two places are alike."""
    check_two_places(graph, one, other)
    if one[0] != other[0]:
        return False
    names = class_names(graph.procedures[one[0]][1])
    return names[one[1]] == names[other[1]]


def alike_classes(graph):
    """Return for each procedure the list of its classes, each a tuple of points."""
    check_chain(graph)
    return [members_of(class_names(points)) for _, points in graph.procedures]


def merged(graph):
    """Return the graph with one point for each class, or None if a chance in it would not be valid."""
    check_chain(graph)
    numbers = list(range(len(graph.procedures)))
    procedures = []
    for exits, points in graph.procedures:
        names = class_names(points)
        found = [moved_point(points[members[0]], numbers, names) for members in members_of(names)]
        found = [("draw", added_up(point[1])) if point[0] == "draw" else point for point in found]
        for point in found:
            if point[0] == "draw" and not all(is_chance(chance) for chance, _ in point[1]):
                return None
        procedures.append((exits, tuple(found)))
    return Graph(procedures=tuple(procedures))


def first_difference(graph, one, other):
    """Return the least depth at which masses from the two places differ with the least such way, or None."""
    check_two_places(graph, one, other)
    sides = [graph.procedures[place[0]] for place in (one, other)]
    if any(point[0] == "call" for _, points in sides for point in points):
        raise NotTold(("calls",))
    if sides[0][0] != sides[1][0]:
        raise NotTold(("exits",))
    ways = graph.ways(one)
    pairs = [((one[0], one[1], way), (other[0], other[1], way)) for way in ways]
    # If no masses differ at depths below the number of all points, none differ at all.
    many = len(sides[0][1]) + len(sides[1][1])
    _, rows = scaled_lengths(graph, [unknown for pair in pairs for unknown in pair], many - 1)
    for depth in range(many):
        for way, (first, second) in zip(ways, pairs):
            if rows[first][depth] != rows[second][depth]:
                return (depth, way)
    return None


def check_two_places(graph, one, other):
    """Raise an error if the arguments are not a chain and two places of it."""
    check_chain(graph)
    if not graph.is_place(one):
        raise BadValue("one")
    if not graph.is_place(other):
        raise BadValue("other")


def class_names(points):
    """Return the list of the numbers of the classes of all points, numbered by their least points."""
    names = [0] * len(points)
    many = 0
    # Points that were told apart stay so, as their old numbers are a part of what is compared.
    while max(names) >= many:
        many = max(names) + 1
        numbers = {}
        after = []
        for point, name in zip(points, names):
            key = (name, shape_of(point, names))
            after.append(numbers.setdefault(key, len(numbers)))
        names = after
    return names


def shape_of(point, names):
    """Return what a point does, with the numbers of classes in place of points, and chances added up."""
    word = point[0]
    if word == "draw":
        return (word, added_up([(chance, names[index]) for chance, index in point[1]]))
    if word == "reward":
        return (word, point[1], names[point[2]])
    if word == "call":
        return (word, point[1], tuple([names[index] for index in point[2]]))
    return point


def added_up(branches):
    """Return the branches in the order of their points, with one branch for each point."""
    totals = {}
    for chance, index in branches:
        totals[index] = plus(totals.get(index, ZERO), chance)
    return tuple([(totals[index], index) for index in sorted(totals)])


def members_of(names):
    """Return the list of the classes with these numbers, each a tuple of points."""
    found = [[] for _ in range(max(names) + 1)]
    for index, name in enumerate(names):
        found[name].append(index)
    return [tuple(members) for members in found]
