"""Chances under the observation that a run finishes."""

from oddscall.calls import check_no_call, check_procedure
from oddscall.checks import check_chain, check_depth, check_graph, check_place
from oddscall.errors import BadValue
from oddscall.fields import NOUGHT, UNIT, divide, subtract
from oddscall.graphs import Graph
from oddscall.judging import check_solution
from oddscall.masses import masses
from oddscall.numbers import number_of
from oddscall.questions import total_of, values_from
from oddscall.rationals import ZERO, over, plus, times
from oddscall.wholes import is_index


def endings(graph, solution, place):
    """Return the chances of the exits, and those of being rejected, of having stopped and of never ending."""
    check_solution(graph, solution)
    check_place(graph, place)
    field = solution[0]
    chances = values_from(solution, place)
    endless = subtract(field, UNIT, total_of(field, chances))
    found = [number_of(field, element) for element in chances + [endless]]
    return (tuple(found[:-3]), found[-3], found[-2], found[-1])


def observed(graph, solution, place, exit_number):
    """Return the observed chance of the exit, or None if no run finishes."""
    check_solution(graph, solution)
    check_place(graph, place)
    check_exit(graph, place, exit_number)
    found = observed_chances(graph, solution, place)
    return None if found is None else found[exit_number]


def posterior(graph, solution, place):
    """Return the tuple of the observed chances of all exits, or None if no run finishes."""
    check_solution(graph, solution)
    check_place(graph, place)
    return observed_chances(graph, solution, place)


def check_exit(graph, place, exit_number):
    """Raise BadValue if the argument is not an exit of the procedure of the place."""
    if not is_index(exit_number, graph.procedures[place[0]][0]):
        raise BadValue("exit")


def observed_chances(graph, solution, place):
    """Return the tuple of the observed chances of all exits, or None, for arguments that were checked."""
    field = solution[0]
    chances = values_from(solution, place)[:graph.procedures[place[0]][0]]
    finishing = total_of(field, chances)
    if finishing == NOUGHT:
        return None
    return tuple([number_of(field, divide(field, element, finishing)) for element in chances])


def observed_at(graph, place, exit_number, depth):
    """Return the observed mass of the exit at the depth, or None if no run has finished there."""
    check_chain(graph)
    check_place(graph, place)
    check_exit(graph, place, exit_number)
    check_depth(depth)
    found, _ = masses(graph, place, depth)
    finishing = ZERO
    for one in found[:graph.procedures[place[0]][0]]:
        finishing = plus(finishing, one)
    return None if finishing == ZERO else over(found[exit_number], finishing)


def observed_draws(graph, solution, procedure):
    """Return for each point of the procedure the observed chances of its branches, if it is a draw that finishes."""
    check_solution(graph, solution)
    check_procedure(graph, procedure)
    check_no_call(graph, procedure)
    exits, points = graph.procedures[procedure]
    # Without calls all chances of the procedure are rational, in whatever field the solution tells them.
    finishing = [total_of(0, list(row[:exits]))[0] for row in solution[1][procedure]]
    return tuple([observed_branches(point, finishing, index) for index, point in enumerate(points)])


def observed_branches(point, finishing, index):
    """Return the observed chances of the branches of a point, from the chances of all points to finish, or None."""
    if point[0] != "draw" or finishing[index] == ZERO:
        return None
    return tuple([over(times(chance, finishing[target]), finishing[index]) for chance, target in point[1]])


def rejecting(graph, places):
    """Return the graph in which runs are rejected at these places."""
    check_graph(graph)
    if not isinstance(places, list) or not all(graph.is_place(place) for place in places):
        raise BadValue("places")
    procedures = []
    for number, (exits, points) in enumerate(graph.procedures):
        changed = [("reject",) if (number, index) in places else point for index, point in enumerate(points)]
        procedures.append((exits, tuple(changed)))
    return Graph(procedures=tuple(procedures))
