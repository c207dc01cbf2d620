"""Means: what runs from the places of a chain are expected to count."""

from oddscall.averages import average_at
from oddscall.checks import check_chain, check_depth, check_place
from oddscall.counts import check_what, count_at, count_of_return
from oddscall.fields import NOUGHT, UNIT, add, is_element, multiply
from oddscall.judging import check_solution, is_tuple_of
from oddscall.numbers import number_of
from oddscall.rationals import ZERO
from oddscall.totals import is_total_answer, total_answer

INFINITE = "infinite"


def means(graph, solution, what):
    """Return a right answer for the system of the means: the totals of all places, and the evidence for them."""
    check_solution(graph, solution)
    check_what(graph, what)
    totals, evidence = answer_of(graph, solution, what)
    found = []
    for number, (_, points) in enumerate(graph.procedures):
        found.append(tuple([totals[number, index] for index in range(len(points))]))
    return (tuple(found), evidence)


def accepts_means(graph, solution, what, answer):
    """Return True if the answer has the form of one and is right."""
    check_solution(graph, solution)
    check_what(graph, what)
    field = solution[0]
    if not is_answer(graph, field, answer):
        return False
    totals, evidence = answer
    table = {place: totals[place[0]][place[1]] for place in graph.places()}
    own, names = mean_system(graph, solution, what)
    return is_total_answer(field, own, names, table, evidence)


def expected(graph, solution, what, place):
    """Return the mean of the place, a number, or a word if it is infinite."""
    check_solution(graph, solution)
    check_what(graph, what)
    check_place(graph, place)
    totals, _ = answer_of(graph, solution, what)
    return INFINITE if totals[place] is None else number_of(solution[0], totals[place])


def mean_at(graph, what, place, depth):
    """Return what runs from the place count on average in so many steps."""
    check_chain(graph)
    check_what(graph, what)
    check_place(graph, place)
    check_depth(depth)
    return average_at(graph, what, place, depth)


def answer_of(graph, solution, what):
    """Return the dict of the totals of all places and the evidence, for arguments that were checked."""
    own, names = mean_system(graph, solution, what)
    return total_answer(solution[0], own, names)


def is_answer(graph, field, value):
    """Return True if the value is a pair of totals for all places and a tuple."""
    if not is_tuple_of(value, 2) or not isinstance(value[1], tuple) or not is_tuple_of(value[0], len(graph.procedures)):
        return False
    for (_, points), row in zip(graph.procedures, value[0]):
        if not is_tuple_of(row, len(points)) or not all(total is None or is_element(field, total) for total in row):
            return False
    return True


def mean_system(graph, solution, what):
    """Return the own numbers of the places, and the weights with which they name each other."""
    field, values, _ = solution
    back = (count_of_return(what), ZERO)
    own = {}
    names = {}
    for place in graph.places():
        point = graph.point_at(place)
        returns = returns_of(point, place[0], values)
        own[place] = (count_at(point, what), ZERO)
        weights = {}
        for chance, target in first_steps(point, place[0]) + returns:
            weights[target] = add(field, weights.get(target, NOUGHT), chance)
        for chance, _ in returns:
            own[place] = add(field, own[place], multiply(field, back, chance))
        names[place] = weights
    return (own, names)


def first_steps(point, number):
    """Return the list of the places at which a step from a point of this procedure comes, with their chances."""
    word = point[0]
    if word == "draw":
        return [((chance, ZERO), (number, index)) for chance, index in point[1]]
    if word == "reward":
        return [(UNIT, (number, point[2]))]
    if word == "call":
        return [(UNIT, (point[1], 0))]
    return []


def returns_of(point, number, values):
    """Return the list of the places at which a call that returns goes on, with their chances if they are not 0."""
    if point[0] != "call":
        return []
    chances = values[point[1]][0]
    found = [(chances[result], (number, index)) for result, index in enumerate(point[2])]
    return [(chance, place) for chance, place in found if chance != NOUGHT]
