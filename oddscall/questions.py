"""Questions about chances: how they compare, what they add up to, and what a depth lacks of them."""

from oddscall.chances import chance, chance_element
from oddscall.checks import check_depth, check_pair, check_place, check_short_number, check_ways
from oddscall.fields import NOUGHT, UNIT, add, sign_of, subtract
from oddscall.judging import check_solution
from oddscall.masses import mass
from oddscall.numbers import compare_numbers, number_of
from oddscall.rationals import ZERO


def compare_chance(graph, solution, place, way, number):
    """Return -1, 0 or 1, as the chance of the way is less than, equal to or greater than the number."""
    found = chance(graph, solution, place, way)
    check_short_number(number)
    return compare_numbers(found, number)


def compare_chances(graph, solution, first, second):
    """Return -1, 0 or 1, as the chance of the first way is less than, equal to or greater than the second one."""
    check_solution(graph, solution)
    check_pair(graph, first, "first")
    check_pair(graph, second, "second")
    field = solution[0]
    return sign_of(field, subtract(field, value_of_way(solution, first), value_of_way(solution, second)))


def value_of_way(solution, pair):
    """Return the value for a pair of a place and a way."""
    (number, index), way = pair
    return solution[1][number][index][way]


def chance_of_any(graph, solution, place, ways):
    """Return the chance of these ways together, a number."""
    check_solution(graph, solution)
    check_place(graph, place)
    check_ways(graph, place, ways)
    field = solution[0]
    return number_of(field, total_of(field, [value_of_way(solution, (place, way)) for way in ways]))


def total_of(field, chances):
    """Return the sum of a list of elements."""
    total = NOUGHT
    for element in chances:
        total = add(field, total, element)
    return total


def ends_surely(graph, solution, place):
    """Return True if the chance of all ways of the place together is 1."""
    check_solution(graph, solution)
    check_place(graph, place)
    return total_of(solution[0], values_from(solution, place)) == UNIT


def values_from(solution, place):
    """Return the list of the values of all ways of the place."""
    return list(solution[1][place[0]][place[1]])


def likeliest_way(graph, solution, place):
    """Return the least one of the ways with the greatest chance, or None if all chances are 0."""
    check_solution(graph, solution)
    check_place(graph, place)
    best = None
    most = NOUGHT
    for way, element in enumerate(values_from(solution, place)):
        if sign_of(solution[0], subtract(solution[0], element, most)) > 0:
            best = way
            most = element
    return best


def rest_of(graph, solution, place, way, depth):
    """Return what the mass of the way at the depth lacks of its chance, a number."""
    field, element = chance_element(graph, solution, place, way)
    check_depth(depth)
    return number_of(field, subtract(field, element, (mass(graph, place, way, depth), ZERO)))
