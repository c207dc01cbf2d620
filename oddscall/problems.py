"""The checks of a graph: the first problem of its procedures."""

from oddscall.errors import BadGraph
from oddscall.rationals import ONE, ZERO, is_rational, plus
from oddscall.wholes import is_index, is_whole

MOST_PROCEDURES = 6
MOST_EXITS = 3
MOST_POINTS = 16
MOST_POINTS_OF_ALL = 40
MOST_BRANCHES = 4
MOST_CHANCE_DENOMINATOR = 60
MOST_AMOUNT_NUMERATOR = 1000
MOST_AMOUNT_DENOMINATOR = 12

# How many items a point with this word has.
ITEMS = {"exit": 2, "draw": 2, "choose": 2, "call": 3, "reward": 3, "reject": 1, "stop": 1}


def check_procedures(procedures):
    """Raise BadGraph for the first problem of the procedures, if there is one."""
    if not isinstance(procedures, tuple):
        raise BadGraph((), "form")
    if not 1 <= len(procedures) <= MOST_PROCEDURES:
        raise BadGraph((), "many")
    for number, procedure in enumerate(procedures):
        why = problem_of_procedure(procedure)
        if why is not None:
            raise BadGraph((number,), why)
    if sum(len(procedure[1]) for procedure in procedures) > MOST_POINTS_OF_ALL:
        raise BadGraph((), "many")
    for number, procedure in enumerate(procedures):
        check_points(procedures, number, procedure[1])


def check_points(procedures, number, points):
    """Raise BadGraph for the first problem of the points of the procedure with this number."""
    for index, point in enumerate(points):
        why = problem_of_point(procedures, number, point)
        if why is not None:
            raise BadGraph((number, index), why)


def problem_of_procedure(procedure):
    """Return the first problem of a procedure, without its single points, or None."""
    if not is_pair(procedure) or not is_whole(procedure[0]) or not isinstance(procedure[1], tuple):
        return "form"
    if not 0 <= procedure[0] <= MOST_EXITS:
        return "exits"
    if not 1 <= len(procedure[1]) <= MOST_POINTS:
        return "points"
    return None


def is_pair(value):
    """Return True if the value is a tuple of two items."""
    return isinstance(value, tuple) and len(value) == 2


def has_form(point):
    """Return True if the value is one of the tuples that points are."""
    if not isinstance(point, tuple) or len(point) == 0 or not isinstance(point[0], str):
        return False
    word = point[0]
    if len(point) != ITEMS.get(word, 0):
        return False
    if word == "exit":
        return is_whole(point[1])
    if word == "draw":
        return isinstance(point[1], tuple) and all(is_pair(branch) for branch in point[1])
    if word == "choose":
        return isinstance(point[1], tuple)
    if word == "call":
        return is_whole(point[1]) and isinstance(point[2], tuple)
    return True


def problem_of_point(procedures, number, point):
    """Return the first problem of a point of the procedure with this number, or None."""
    if not has_form(point):
        return "form"
    exits, points = procedures[number]
    word = point[0]
    if word == "exit":
        return None if is_index(point[1], exits) else "exit"
    if word == "draw":
        return problem_of_draw(point[1], len(points))
    if word == "choose":
        return problem_of_choice(point[1], len(points))
    if word == "call":
        return problem_of_call(procedures, point, len(points))
    if word == "reward":
        return problem_of_reward(point, len(points))
    return None


def problem_of_draw(branches, many):
    """Return the first problem of the branches of a draw in a procedure of so many points, or None."""
    if not 1 <= len(branches) <= MOST_BRANCHES:
        return "branches"
    total = ZERO
    for chance, index in branches:
        if not is_chance(chance):
            return "chance"
        if not is_index(index, many):
            return "point"
        total = plus(total, chance)
    return None if total == ONE else "sum"


def problem_of_choice(targets, many):
    """Return the first problem of a choice in a procedure of so many points, or None."""
    if not 1 <= len(targets) <= MOST_BRANCHES:
        return "branches"
    return problem_of_targets(targets, many)


def problem_of_call(procedures, call, many):
    """Return the first problem of a call in a procedure of so many points, or None."""
    _, called, targets = call
    if not is_index(called, len(procedures)):
        return "procedure"
    if len(targets) != procedures[called][0]:
        return "branches"
    return problem_of_targets(targets, many)


def problem_of_reward(reward, many):
    """Return the first problem of a reward in a procedure of so many points, or None."""
    _, amount, index = reward
    if not is_amount(amount):
        return "amount"
    return problem_of_targets((index,), many)


def problem_of_targets(targets, many):
    """Return the problem of named points, if one of them is not an index of so many points, or None."""
    return None if all(is_index(index, many) for index in targets) else "point"


def is_chance(value):
    """Return True if the value is a chance that a branch can have."""
    return is_rational(value) and value[0] > 0 and value[1] <= MOST_CHANCE_DENOMINATOR


def is_amount(value):
    """Return True if the value is an amount that a reward can have."""
    if not is_rational(value):
        return False
    return 0 <= value[0] <= MOST_AMOUNT_NUMERATOR and value[1] <= MOST_AMOUNT_DENOMINATOR
