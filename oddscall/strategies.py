"""Choices in procedures without calls: strategies, greatest and least masses, and points that avoid a target."""

from math import lcm

from oddscall.calls import check_no_call, check_procedure
from oddscall.checks import check_depth, check_graph, check_place, check_way
from oddscall.errors import BadValue
from oddscall.graphs import Graph
from oddscall.points import targets_of
from oddscall.rationals import ONE, ratio
from oddscall.wholes import is_index


def chain_of(graph, procedure, strategy):
    """Return the chain of the strategy: the procedure alone, which takes what the strategy takes."""
    check_alone(graph, procedure)
    exits, points = graph.procedures[procedure]
    if not is_strategy(points, strategy):
        raise BadValue("strategy")
    left = list(strategy)
    taken = []
    for point in points:
        if point[0] == "choose":
            taken.append(("draw", ((ONE, point[1][left.pop(0)]),)))
        else:
            taken.append(point)
    return Graph(procedures=((exits, tuple(taken)),))


def greatest_mass(graph, place, way, depth):
    """Return the greatest mass of the way at the depth under all strategies."""
    check_target(graph, place, way, depth)
    return best_mass(graph, place, way, depth, True)


def least_mass(graph, place, way, depth):
    """Return the least mass of the way at the depth under all strategies."""
    check_target(graph, place, way, depth)
    return best_mass(graph, place, way, depth, False)


def avoiding(graph, procedure, way):
    """Return the list of the points from which the way can be avoided surely."""
    check_alone(graph, procedure)
    check_way(graph, (procedure, 0), way)
    exits, points = graph.procedures[procedure]
    found = {index: True for index, point in enumerate(points) if way_of_end(exits, point) != way}
    left = [index for index in found if not stays_in(points[index], found)]
    while len(left) > 0:
        for index in left:
            del found[index]
        left = [index for index in found if not stays_in(points[index], found)]
    return sorted(found)


def stays_in(point, inside):
    """Return True if a run at the point can stay inside, whatever is drawn."""
    ways = [index in inside for index in targets_of(point)]
    return any(ways) if point[0] == "choose" else all(ways)


def way_of_end(exits, point):
    """Return the way that a run ends in at the point, in a procedure with so many exits, or None."""
    if point[0] == "exit":
        return point[1]
    if point[0] == "reject":
        return exits
    return exits + 1 if point[0] == "stop" else None


def check_alone(graph, procedure):
    """Raise an error if the argument is not a Graph and the index of a procedure without calls in it."""
    check_graph(graph)
    check_procedure(graph, procedure)
    check_no_call(graph, procedure)


def is_strategy(points, value):
    """Return True if the value is a positional strategy for these points."""
    sizes = [len(point[1]) for point in points if point[0] == "choose"]
    if not isinstance(value, tuple) or len(value) != len(sizes):
        return False
    return all(is_index(index, size) for index, size in zip(value, sizes))


def check_target(graph, place, way, depth):
    """Raise an error for the first wrong argument."""
    check_graph(graph)
    check_place(graph, place)
    check_no_call(graph, place[0])
    check_way(graph, place, way)
    check_depth(depth)


def best_mass(graph, place, way, depth, greatest):
    """Return the greatest or the least mass of the way at the depth.

    The masses of all points at the depth n are told as integers, multiplied by the n-th power of a scale.
    """
    exits, points = graph.procedures[place[0]]
    scale = 1
    for point in points:
        if point[0] == "draw":
            for chance, _ in point[1]:
                scale = lcm(scale, chance[1])
    row = [1 if way_of_end(exits, point) == way else 0 for point in points]
    power = 1
    for _ in range(depth):
        row = [next_mass(point, index, row, scale, greatest) for index, point in enumerate(points)]
        power = power * scale
    return ratio(row[place[1]], power)


def next_mass(point, index, row, scale, greatest):
    """Return the scaled mass of a point at the next depth, from the row of the masses of all points at a depth."""
    word = point[0]
    if word == "draw":
        return sum(n * (scale // d) * row[target] for (n, d), target in point[1])
    if word == "choose":
        masses = [row[target] for target in point[1]]
        return scale * (max(masses) if greatest else min(masses))
    if word == "reward":
        return scale * row[point[2]]
    return scale * row[index]
