"""Weighted systems: totals of nodes that name each other with weights, which may be infinite, and their evidence.

A system is told by two dicts: the own number of each node, and for each node a dict with the weights of the nodes that
it names. Nodes stand in ascending order. Totals are told by a dict, with None for what is infinite.
"""

from oddscall.components import is_looped, ordered_components
from oddscall.fields import NOUGHT, UNIT, add, is_element, multiply, sign_of, subtract
from oddscall.linear import kernel_vector, linear_solution
from oddscall.loose import LOOSE_ONE, LOOSE_ZERO, are_same, loose_product, loose_sum, loosened

BOUNDED = "bounded"
HEAVY = "heavy"
LEVEL = "level"


def total_answer(field, own, names):
    """Return the dict of the totals of a system, and the tuple of evidence for them."""
    counting = counting_nodes(own, names)
    totals = {}
    evidence = []
    for block in ordered_components(names):
        if block[0] not in counting:
            found = [NOUGHT] * len(block)
        elif any(names_infinite(names[node], totals) for node in block):
            found = [None] * len(block)
        elif is_looped(block, names):
            shown, found = looped_block(field, block, own, names, totals)
            evidence.append(shown)
        else:
            found = [outer_total(field, own[block[0]], names[block[0]], totals)]
        for node, total in zip(block, found):
            totals[node] = total
    return (totals, tuple(evidence))


def counting_nodes(own, names):
    """Return a dict with the nodes that count."""
    sources = {node: [] for node in names}
    for node, weights in names.items():
        for other in weights:
            sources[other].append(node)
    waiting = [node for node, number in own.items() if number != NOUGHT]
    found = {node: True for node in waiting}
    while waiting:
        latest = waiting.pop()
        for node in sources[latest]:
            if node not in found:
                found[node] = True
                waiting.append(node)
    return found


def names_infinite(weights, totals):
    """Return True if one of the named nodes is known to have an infinite total."""
    return any(totals.get(node, NOUGHT) is None for node in weights)


def outer_total(field, number, weights, totals):
    """Return the own number of a node plus the weighted totals of the nodes that are known."""
    for node, weight in weights.items():
        if node in totals:
            number = add(field, number, multiply(field, weight, totals[node]))
    return number


def looped_block(field, block, own, names, totals):
    """Return evidence for a looped block that names nothing infinite outside, and the list of its totals."""
    columns = {node: column for column, node in enumerate(block)}
    rows = []
    rights = []
    for node in block:
        row = {columns[node]: UNIT}
        for other, weight in names[node].items():
            if other in columns:
                row[columns[other]] = subtract(field, row.get(columns[other], NOUGHT), weight)
        rows.append(row)
        rights.append((UNIT, outer_total(field, own[node], names[node], totals)))
    found = linear_solution(field, rows, rights)
    endless = [None] * len(block)
    if found is None:
        return ((LEVEL, tuple(kernel_vector(field, rows))), endless)
    shown = tuple([numbers[0] for numbers in found])
    if all(sign_of(field, number) > 0 for number in shown):
        return ((BOUNDED, shown), [numbers[1] for numbers in found])
    return ((HEAVY, shown), endless)


def is_total_answer(field, own, names, totals, evidence):
    """Return True if the totals, each an element or None, and the tuple of evidence are a right answer."""
    counting = counting_nodes(own, names)
    endless = {}
    used = 0
    for block in ordered_components(names):
        if block[0] not in counting:
            continue
        heavy = any(other in endless for node in block for other in names[node])
        if not heavy and is_looped(block, names):
            if used == len(evidence) or not is_evidence(field, block, names, evidence[used]):
                return False
            heavy = evidence[used][0] != BOUNDED
            used += 1
        if heavy:
            for node in block:
                endless[node] = True
    if used < len(evidence):
        return False
    for node, total in totals.items():
        if (total is None) != (node in endless):
            return False
        if node not in counting and total != NOUGHT:
            return False
    finite = {node: loosened(total) for node, total in totals.items() if total is not None}
    return all(is_balanced(field, own[node], names[node], finite, node) for node in finite)


def is_balanced(field, number, weights, finite, node):
    """Return True if the loose total of the node satisfies its equation."""
    return are_same(finite[node], loose_sum(loosened(number), weighted_sum(field, weights, finite)))


def weighted_sum(field, weights, numbers):
    """Return the sum of the weighted loose numbers of those named nodes that have one."""
    total = LOOSE_ZERO
    for node, weight in weights.items():
        if node in numbers:
            total = loose_sum(total, loose_product(field, loosened(weight), numbers[node]))
    return total


def is_evidence(field, block, names, value):
    """Return True if the value is right evidence for a looped block."""
    if not isinstance(value, tuple) or len(value) != 2 or value[0] not in (BOUNDED, HEAVY, LEVEL):
        return False
    word, shown = value
    if not isinstance(shown, tuple) or len(shown) != len(block) or not all(is_element(field, x) for x in shown):
        return False
    numbers = {node: loosened(number) for node, number in zip(block, shown)}
    rest = LOOSE_ZERO if word == LEVEL else LOOSE_ONE
    for node in block:
        if not are_same(numbers[node], loose_sum(rest, weighted_sum(field, names[node], numbers))):
            return False
    if word == LEVEL:
        return any(number != NOUGHT for number in shown)
    return (word == BOUNDED) == all(sign_of(field, number) > 0 for number in shown)
