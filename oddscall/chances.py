"""The chances of ways, told from an accepted solution."""

from oddscall.checks import check_place, check_way
from oddscall.judging import check_solution
from oddscall.numbers import number_of


def chance(graph, solution, place, way):
    """Return the chance of the way from the place, a number."""
    field, element = chance_element(graph, solution, place, way)
    return number_of(field, element)


def chance_element(graph, solution, place, way):
    """Return the field of the solution and its value for the way from the place."""
    check_solution(graph, solution)
    check_place(graph, place)
    check_way(graph, place, way)
    field, values, _ = solution
    return (field, values[place[0]][place[1]][way])
