"""What the tests of graphs share: sample graphs, and a second way to follow runs."""

import random
from fractions import Fraction
from math import gcd

from oddscall.following import follow
from oddscall.graphs import Graph

HEADS = ("draw", (((2, 3), 1), ((1, 3), 3)))


def walk():
    """Return the graph of the document that calls itself twice."""
    return Graph(procedures=((1, (HEADS, ("call", 0, (2,)), ("call", 0, (3,)), ("exit", 0))),))


def all_kinds():
    """Return a graph with points of all seven kinds, which has choices."""
    first = (2, (
        ("draw", (((1, 2), 1), ((1, 3), 2), ((1, 6), 2))),
        ("choose", (5, 3, 0, 3)),
        ("call", 1, (4, 4, 6)),
        ("reward", (3, 4), 0),
        ("exit", 1),
        ("reject",),
        ("stop",),
    ))
    second = (3, (("call", 1, (3, 1, 2)), ("exit", 0), ("exit", 2), ("call", 2, ())))
    third = (0, (("choose", (1,)), ("stop",)))
    return Graph(procedures=(first, second, third))


def chain_of_kinds():
    """Return a chain in which calls finish with two exits, are rejected and stop."""
    first = (2, (
        ("draw", (((1, 2), 1), ((1, 4), 2), ((1, 4), 2))),
        ("call", 1, (3, 4, 0)),
        ("reward", (5, 2), 1),
        ("exit", 1),
        ("exit", 0),
    ))
    second = (3, (
        ("draw", (((1, 5), 1), ((1, 5), 2), ((1, 5), 3), ((2, 5), 4))),
        ("exit", 2),
        ("reject",),
        ("stop",),
        ("draw", (((1, 3), 5), ((1, 3), 6), ((1, 3), 7))),
        ("exit", 0),
        ("call", 0, (5, 1)),
        ("exit", 1),
    ))
    return Graph(procedures=(first, second))


def random_branches(dice, points):
    """Return branches of a draw with a random denominator of at most 60."""
    whole = dice.randrange(1, 61)
    many = min(whole, dice.randrange(1, 5))
    cuts = [0] + sorted(dice.sample(range(1, whole), many - 1)) + [whole]
    parts = [high - low for low, high in zip(cuts, cuts[1:])]
    return tuple([((part // gcd(part, whole), whole // gcd(part, whole)), dice.randrange(points)) for part in parts])


def random_chain(seed, sizes=(4, 3, 2), exits=(2, 1, 0)):
    """Return a random chain with procedures of these sizes and numbers of exits."""
    dice = random.Random(seed)
    procedures = []
    for number, size in enumerate(sizes):
        points = []
        for _ in range(size):
            word = dice.choice(("draw", "draw", "call", "call", "exit", "exit", "reward", "reject", "stop"))
            if word == "exit" and exits[number] == 0:
                word = "draw"
            called = dice.randrange(len(sizes))
            points.append({
                "draw": ("draw", random_branches(dice, size)),
                "call": ("call", called, tuple([dice.randrange(size) for _ in range(exits[called])])),
                "exit": ("exit", dice.randrange(max(1, exits[number]))),
                "reward": ("reward", (dice.randrange(3), 1), dice.randrange(size)),
                "reject": ("reject",),
                "stop": ("stop",),
            }[word])
        procedures.append((exits[number], tuple(points)))
    return Graph(procedures=tuple(procedures))


def greatest_chain():
    """Return a chain with 6 procedures of 3 exits, 40 points and denominators without common divisors."""
    primes = (59, 53, 47, 43, 41, 37, 31, 29, 23, 19, 17, 13, 11)
    procedures = []
    for number, size in enumerate((7, 7, 7, 7, 6, 6)):
        points = []
        for index in range(size - 2):
            d = primes[(number * 3 + index) % len(primes)]
            if index % 2 == 0:
                targets = ((index + 1) % size, (index + 2) % size, (index + 3) % size)
                points.append(("draw", (((1, d), targets[0]), ((2, d), targets[1]), ((d - 3, d), targets[2]))))
            else:
                points.append(("call", (number + index) % 6, (index + 1, size - 2, size - 1)))
        points.append(("draw", (((1, 4), 0), ((1, 4), 1), ((1, 2), size - 1))))
        points.append(("exit", number % 3))
        procedures.append((3, tuple(points)))
    return Graph(procedures=tuple(procedures))


def kind_of_way(graph, place, way):
    """Return the state and the exit with which follow tells that a run ended in the way."""
    exits = graph.procedures[place[0]][0]
    if way < exits:
        return ("finished", way)
    return ("rejected", None) if way == exits else ("stopped", None)


def all_runs(graph, place, steps):
    """Return what follow tells for all tapes along which runs use all items in at most so many steps."""
    found = []
    waiting = [()]
    while waiting:
        tape = waiting.pop()
        told = follow(graph, place, tape)
        if told[2] > steps:
            continue
        if told[0] == "waiting":
            many = len(graph.point_at(told[6][-1])[1])
            waiting.extend([tape + (item,) for item in range(many)])
        elif told[3] == len(tape):
            found.append(told)
    return found


def ended_chances(graph, place, depth):
    """Return the chance of each (length, way) up to the depth, and the running chances of all depths.

    All configurations are followed side by side, by the rules for steps alone and with fractions of Python's own.
    """
    ended = {}
    running = []
    now = {(place,): Fraction(1)}
    for length in range(depth + 1):
        rest = {}
        after = {}
        for stack, weight in now.items():
            way = way_of_end(graph, place, stack)
            if way is not None:
                ended[length, way] = ended.get((length, way), 0) + weight
                continue
            rest[stack] = weight
            for chance, other in steps_from(graph, stack):
                after[other] = after.get(other, 0) + weight * chance
        running.append(sum(rest.values(), Fraction(0)))
        now = after
    return (ended, running)


def way_of_end(graph, place, stack):
    """Return the way in which a run has ended with this configuration, or None."""
    exits = graph.procedures[place[0]][0]
    point = graph.procedures[stack[-1][0]][1][stack[-1][1]]
    if point[0] == "reject":
        return exits
    if point[0] == "stop":
        return exits + 1
    if point[0] == "exit" and len(stack) == 1:
        return point[1]
    return None


def steps_from(graph, stack):
    """Return the pairs of a chance and a configuration for the steps from a configuration."""
    number, index = stack[-1]
    point = graph.procedures[number][1][index]
    if point[0] == "draw":
        return [(Fraction(*chance), stack[:-1] + ((number, target),)) for chance, target in point[1]]
    if point[0] == "reward":
        return [(Fraction(1), stack[:-1] + ((number, point[2]),))]
    if point[0] == "call":
        return [(Fraction(1), stack + ((point[1], 0),))]
    below = stack[-2]
    call = graph.procedures[below[0]][1][below[1]]
    return [(Fraction(1), stack[:-2] + ((below[0], call[2][point[1]]),))]
