"""Depths at which a mass is greater than a rational, which show without a solution that a chance is."""

from oddscall.checks import GREATEST_DEPTH, check_chain, check_depth, check_place, check_short_rational, check_way
from oddscall.masses import lengths, mass
from oddscall.rationals import ZERO, less, plus


def first_depth(graph, place, way, rational):
    """Return the least depth at which the mass is greater than the rational, or None if it is beyond all depths."""
    check_arguments(graph, place, way, rational)
    total = ZERO
    for depth, more in enumerate(lengths(graph, place, way, GREATEST_DEPTH)):
        total = plus(total, more)
        if less(rational, total):
            return depth
    return None


def is_beyond(graph, place, way, rational, depth):
    """Return True if the mass at the depth is greater than the rational."""
    check_arguments(graph, place, way, rational)
    check_depth(depth)
    return less(rational, mass(graph, place, way, depth))


def check_arguments(graph, place, way, rational):
    """Raise an error for the first wrong argument."""
    check_chain(graph)
    check_place(graph, place)
    check_way(graph, place, way)
    check_short_rational(rational)
