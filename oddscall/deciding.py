"""Greatest and least chances where somebody chooses, with evidence for them and the judges of it."""

from oddscall.balancing import Game
from oddscall.checks import check_way
from oddscall.judging import is_tuple_of
from oddscall.rationals import ZERO, is_rational, less
from oddscall.strategies import avoiding, check_alone, is_strategy


def greatest(graph, procedure, way):
    """Return evidence for the greatest chances: the values of all points, and a strategy that has them."""
    game = checked_game(graph, procedure, way)
    return best_evidence(game, None)


def least(graph, procedure, way):
    """Return evidence for the least chances: the values of all points, and a strategy that has them."""
    game = checked_game(graph, procedure, way)
    return best_evidence(game, avoiding_table(graph, procedure, way))


def best_evidence(game, inside):
    """Return evidence for the least chances, with the avoiding points inside, or for the greatest ones without them.

    Only what is strictly better is taken instead, so that for the greatest chances no point from which the target is
    reached loses it. For the least ones the avoiding points have the value 0 from the beginning, and what leaves them
    is not the best.
    """
    better = game.first_targets()
    targets = None
    while better != targets:
        targets = better
        values = game.values_under(targets, game.missing(targets) if inside is None else inside)
        better = game.better_targets(targets, values, inside is None)
    return (values, game.strategy_of(targets))


def accepts_greatest(graph, procedure, way, evidence):
    """Return True if the argument is evidence for the greatest chances."""
    game = checked_game(graph, procedure, way)
    return is_evidence(game, evidence, None)


def accepts_least(graph, procedure, way, evidence):
    """Return True if the argument is evidence for the least chances."""
    game = checked_game(graph, procedure, way)
    return is_evidence(game, evidence, avoiding_table(graph, procedure, way))


def is_evidence(game, evidence, inside):
    """Return True if the argument is evidence for the least chances, or for the greatest ones if nothing is inside."""
    if not is_balanced(game, evidence):
        return False
    values, strategy = evidence
    targets = game.taken_by(strategy)
    if game.better_targets(targets, values, inside is None) != targets:
        return False
    return is_just_zero_at(values, game.missing(targets) if inside is None else inside)


def checked_game(graph, procedure, way):
    """Return the game of the procedure, after a check of all arguments."""
    check_alone(graph, procedure)
    check_way(graph, (procedure, 0), way)
    exits, points = graph.procedures[procedure]
    return Game(exits, points, way)


def avoiding_table(graph, procedure, way):
    """Return a dict with the avoiding points."""
    return {index: True for index in avoiding(graph, procedure, way)}


def is_balanced(game, evidence):
    """Return True if the argument is a pair of values and a strategy for which they are balanced."""
    if not is_tuple_of(evidence, 2) or not is_tuple_of(evidence[0], len(game.points)):
        return False
    values, strategy = evidence
    if not all(is_rational(value) for value in values) or not is_strategy(game.points, strategy):
        return False
    targets = game.taken_by(strategy)
    return all(value == game.value_at(index, targets, values) for index, value in enumerate(values))


def is_just_zero_at(values, inside):
    """Return True if the values at the points inside are 0, and all others are greater than 0."""
    return all(value == ZERO if index in inside else less(ZERO, value) for index, value in enumerate(values))
