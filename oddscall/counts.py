"""What runs count in their steps: amounts of rewards, steps, or calls of a procedure."""

from oddscall.errors import BadValue
from oddscall.rationals import ONE, ZERO
from oddscall.wholes import is_index

REWARD = "reward"
STEPS = "steps"
CALLS = "calls"


def check_what(graph, what):
    """Raise BadValue if the argument is no kind of counts of the graph."""
    if what not in (REWARD, STEPS) and not is_count_of_calls(graph, what):
        raise BadValue("what")


def is_count_of_calls(graph, what):
    """Return True if the value is the kind of counts for the calls of a procedure."""
    if not isinstance(what, tuple) or len(what) != 2 or what[0] != CALLS:
        return False
    return is_index(what[1], len(graph.procedures))


def count_at(point, what):
    """Return what the step that leaves the point counts, a rational."""
    word = point[0]
    if what == REWARD:
        return point[1] if word == "reward" else ZERO
    if what == STEPS:
        return ONE if word in ("draw", "reward", "call") else ZERO
    return ONE if word == "call" and point[1] == what[1] else ZERO


def count_of_return(what):
    """Return what the return of a call counts, a rational."""
    return ONE if what == STEPS else ZERO
