"""Masses: the chances with which runs of a chain have ended after so many steps."""

from math import lcm

from oddscall.checks import check_chain, check_depth, check_place, check_way
from oddscall.equations import terms_at
from oddscall.rationals import ONE, minus, ratio


def mass(graph, place, way, depth):
    """Return the mass of the way at the depth."""
    scale, row = checked_row(graph, place, way, depth)
    return mass_of_row(scale, row)


def lengths(graph, place, way, depth):
    """Return the list of the chances of the lengths from 0 to the depth."""
    scale, row = checked_row(graph, place, way, depth)
    found = []
    power = 1
    for scaled in row:
        found.append(ratio(scaled, power))
        power = power * scale
    return found


def checked_row(graph, place, way, depth):
    """Return a scale and the scaled chances of the lengths of the way, after a check of all arguments."""
    check_chain(graph)
    check_place(graph, place)
    check_way(graph, place, way)
    check_depth(depth)
    unknown = (place[0], place[1], way)
    scale, rows = scaled_lengths(graph, [unknown], depth)
    return (scale, rows[unknown])


def masses(graph, place, depth):
    """Return the tuple of the masses of all ways of the place at the depth, and the running mass."""
    check_chain(graph)
    check_place(graph, place)
    check_depth(depth)
    starts = [(place[0], place[1], way) for way in graph.ways(place)]
    scale, rows = scaled_lengths(graph, starts, depth)
    found = [mass_of_row(scale, rows[unknown]) for unknown in starts]
    running = ONE
    for one in found:
        running = minus(running, one)
    return (tuple(found), running)


def mass_of_row(scale, row):
    """Return the sum of the chances of the lengths in a row of scaled lengths."""
    total = 0
    power = 1
    for at, scaled in enumerate(row):
        if at > 0:
            power = power * scale
        total = total * scale + scaled
    return ratio(total, power)


def scaled_lengths(graph, starts, depth):
    """Return a scale and a table with the chances of the lengths 0 to the depth.

    The table has a row for each unknown on which the starts depend. The chance of the length k is told as
    an integer, multiplied by the scale k times: so no common divisors have to be looked for on the way.
    """
    table = terms_below(graph, starts)
    scale = 1
    for terms in table.values():
        for chance, _ in terms:
            scale = lcm(scale, chance[1])
    scaled = {unknown: scaled_terms(terms, scale) for unknown, terms in table.items()}
    rows = {unknown: [] for unknown in scaled}
    for length in range(depth + 1):
        for unknown, terms in scaled.items():
            rows[unknown].append(chance_of_length(terms, rows, length))
    return (scale, rows)


def terms_below(graph, starts):
    """Return a table with the terms of the unknowns on which the starts depend, themselves included."""
    table = {}
    waiting = list(starts)
    while waiting:
        unknown = waiting.pop()
        if unknown not in table:
            terms = terms_at(graph, unknown)
            table[unknown] = terms
            for _, factors in terms:
                waiting.extend(factors)
    return table


def scaled_terms(terms, scale):
    """Return the terms with integers as chances: each is multiplied by the scale once for each factor."""
    found = []
    for chance, factors in terms:
        weight = chance[0]
        for _ in factors:
            weight = weight * scale
        found.append((weight // chance[1], factors))
    return found


def chance_of_length(terms, rows, length):
    """Return the scaled chance of the length, from the rows of all lesser lengths.

    A term without factors has the length 0. A single factor is one step farther; two factors are a call and
    what follows it, with a step into the called procedure and a step back.
    """
    total = 0
    for weight, factors in terms:
        rest = length - len(factors)
        if len(factors) == 0:
            total += weight if rest == 0 else 0
        elif rest >= 0 and len(factors) == 1:
            total += weight * rows[factors[0]][rest]
        elif rest >= 0:
            total += weight * joined(rows[factors[0]], rows[factors[1]], rest)
    return total


def joined(first, second, length):
    """Return the sum of the products of items of two rows whose indexes add up to the length."""
    total = 0
    for at in range(length + 1):
        if first[at] != 0:
            total += first[at] * second[length - at]
    return total
