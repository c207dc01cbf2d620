"""What a chance rests on: draws, how often runs use their branches, and how fast the chance grows with them."""

from oddscall.checks import check_chain, check_unknown
from oddscall.errors import BadValue
from oddscall.fields import NOUGHT, divide, is_element, multiply, subtract
from oddscall.judging import check_solution, is_tuple_of
from oddscall.loose import tightened
from oddscall.numbers import number_of
from oddscall.parts import live_table
from oddscall.rationals import ZERO
from oddscall.slopes import slopes_of, values_below
from oddscall.totals import is_total_answer, total_answer
from oddscall.wholes import is_index

INFINITE = "infinite"


def rests_on(graph, unknown):
    """Return the list of the draws on which the chance of the unknown rests."""
    check_chain(graph)
    check_unknown(graph, unknown)
    live = live_table(graph)
    found = {}
    for number, index, _ in used_unknowns(live, unknown):
        if graph.point_at((number, index))[0] == "draw":
            found[number, index] = True
    return sorted(found)


def branch_uses(graph, solution, draw, branch):
    """Return a right answer for the system of the uses of the branch."""
    check_solution(graph, solution)
    check_draw(graph, draw)
    check_branch(graph, draw, branch, "branch")
    live = live_table(graph)
    own, names = use_system(graph, solution, live, draw, branch)
    totals, evidence = total_answer(solution[0], own, names)
    return (tuple([totals[unknown] for unknown in live]), evidence)


def accepts_uses(graph, solution, draw, branch, answer):
    """Return True if the answer has the form of one and is right."""
    check_solution(graph, solution)
    check_draw(graph, draw)
    check_branch(graph, draw, branch, "branch")
    live = live_table(graph)
    field = solution[0]
    if not is_tuple_of(answer, 2) or not is_tuple_of(answer[0], len(live)) or not isinstance(answer[1], tuple):
        return False
    totals, evidence = answer
    if not all(total is None or is_element(field, total) for total in totals):
        return False
    own, names = use_system(graph, solution, live, draw, branch)
    table = {unknown: total for unknown, total in zip(live, totals)}
    return is_total_answer(field, own, names, table, evidence)


def uses(graph, solution, unknown, draw):
    """Return the list of the uses of all branches of the draw for the unknown, numbers or a word."""
    check_solution(graph, solution)
    check_unknown(graph, unknown)
    check_draw(graph, draw)
    many = len(graph.point_at(draw)[1])
    found = [use_of(graph, solution, unknown, draw, branch) for branch in range(many)]
    return [INFINITE if use is None else number_of(solution[0], use) for use in found]


def slope_of(graph, solution, unknown, draw, first, second):
    """Return how fast the chance of the unknown grows from the first to the second branch, or None."""
    check_solution(graph, solution)
    check_unknown(graph, unknown)
    check_draw(graph, draw)
    check_branch(graph, draw, first, "first")
    check_branch(graph, draw, second, "second")
    if first == second:
        raise BadValue("second")
    field = solution[0]
    ratios = []
    for branch in (first, second):
        use = use_of(graph, solution, unknown, draw, branch)
        if use is None:
            return None
        ratios.append(divide(field, use, (graph.point_at(draw)[1][branch][0], ZERO)))
    return number_of(field, subtract(field, ratios[1], ratios[0]))


def check_draw(graph, draw):
    """Raise BadValue if the argument is not a place of a draw."""
    if not graph.is_place(draw) or graph.point_at(draw)[0] != "draw":
        raise BadValue("draw")


def check_branch(graph, draw, branch, name):
    """Raise BadValue with this name if the argument is not the index of a branch of the draw."""
    if not is_index(branch, len(graph.point_at(draw)[1])):
        raise BadValue(name)


def used_unknowns(live, unknown):
    """Return a dict with the positive unknown and all unknowns that it uses; it is empty for any other unknown."""
    if unknown not in live:
        return {}
    found = {unknown: True}
    waiting = [unknown]
    while waiting:
        latest = waiting.pop()
        for _, factors in live[latest]:
            for factor in factors:
                if factor not in found:
                    found[factor] = True
                    waiting.append(factor)
    return found


def use_of(graph, solution, unknown, draw, branch):
    """Return the uses of the branch for the unknown, an element or None, for arguments that were checked."""
    live = live_table(graph)
    used = used_unknowns(live, unknown)
    if len(used) == 0:
        return NOUGHT
    # The uses for an unknown rest on nothing but the unknowns that it uses.
    below = {other: live[other] for other in sorted(used)}
    own, names = use_system(graph, solution, below, draw, branch)
    totals, _ = total_answer(solution[0], own, names)
    return totals[unknown]


def use_system(graph, solution, live, draw, branch):
    """Return the own numbers of the positive unknowns, and the weights with which they name each other."""
    field, values, _ = solution
    table = values_below(graph, values)
    chance, target = graph.point_at(draw)[1][branch]
    own = {}
    names = {}
    for unknown, terms in live.items():
        number, index, way = unknown
        slopes = slopes_of(field, terms, table)
        names[unknown] = {factor: tightened(slope) for factor, slope in slopes.items()}
        own[unknown] = NOUGHT
        if (number, index) == draw:
            # The value is 0 just if the unknown behind the branch is not positive.
            own[unknown] = multiply(field, values[number][target][way], (chance, ZERO))
    return (own, names)
