"""Linear equations over a field, solved with rows of integers.

A row is a dict with a pair of integers (x, y) for each key, which stands for x + y * sqrt(D). Its keys are the
columns of the unknowns and, behind them, those of the right sides. Rows are divided by what all their integers share,
which takes far fewer divisions than to keep each single number in lowest terms.
"""

from math import gcd, lcm

from oddscall.loose import LOOSE_ONE, LOOSE_ZERO, loose_opposite, loose_product, loose_sum, loosened, tightened


def linear_solution(field, rows, rights):
    """Return the list of the values of the unknowns, each a tuple with one element for each right side, or None.

    Each row is a dict with the coefficients of an equation for the columns of unknowns; its right sides are a tuple.
    There is no answer if the equations do not have exactly one solution.
    """
    many = len(rows)
    whole = [whole_row(row, right, many) for row, right in zip(rows, rights)]
    steps = elimination(field, whole, many)
    if len(steps) < many:
        return None
    answers = [values_of(field, steps, many + at, {}) for at in range(len(rights[0]))]
    return [tuple([tightened(answer[column]) for answer in answers]) for column in range(many)]


def kernel_vector(field, rows):
    """Return a list of elements, not all 0, for which the total of each row is 0, or None if there is none."""
    many = len(rows)
    steps = elimination(field, [whole_row(row, (), many) for row in rows], many)
    bound = {column: True for column, _ in steps}
    free = [column for column in range(many) if column not in bound]
    if len(free) == 0:
        return None
    start = {column: LOOSE_ZERO for column in free}
    start[free[0]] = LOOSE_ONE
    answer = values_of(field, steps, many, start)
    return [tightened(answer[column]) for column in range(many)]


def whole_row(row, right, many):
    """Return the row of integers of the coefficients and right sides of an equation with so many unknowns."""
    table = {column: loosened(element) for column, element in row.items()}
    for at, element in enumerate(right):
        table[many + at] = loosened(element)
    scale = 1
    for _, _, d in table.values():
        scale = lcm(scale, d)
    return shortened({key: (a[0] * (scale // a[2]), a[1] * (scale // a[2])) for key, a in table.items()})


def shortened(row):
    """Return the row without zeros, divided by the greatest common divisor of its integers."""
    shared = 0
    for x, y in row.values():
        shared = gcd(shared, x, y)
        if shared == 1:
            break
    return {key: (a[0] // shared, a[1] // shared) for key, a in row.items() if a != (0, 0)}


def elimination(field, rows, many):
    """Return the list of the pairs of a column and a row without the columns of the pairs before it."""
    steps = []
    chosen = pivot_of(rows, many)
    while chosen is not None:
        at, column = chosen
        pivot = with_whole_pivot(field, rows[at], column)
        steps.append((column, pivot))
        rows = [without_column(field, row, column, pivot) for other, row in enumerate(rows) if other != at]
        chosen = pivot_of(rows, many)
    return steps


def pivot_of(rows, many):
    """Return the index of a row and a column of it, chosen so that few numbers are changed, or None."""
    counts = [0] * many
    for row in rows:
        for key in row:
            if key < many:
                counts[key] += 1
    best = None
    least = None
    for at, row in enumerate(rows):
        for key in row:
            if key < many:
                cost = (len(row) - 1) * (counts[key] - 1)
                if least is None or cost < least:
                    best = (at, key)
                    least = cost
    return best


def with_whole_pivot(field, row, column):
    """Return the row multiplied by a number so that its number in the column is an integer."""
    x, y = row[column]
    if y == 0:
        return row
    return shortened({key: pair_product(field, a, (x, -y)) for key, a in row.items()})


def without_column(field, row, column, pivot):
    """Return the row less the multiple of the pivot row that has the same number in the column."""
    if column not in row:
        return row
    top = pivot[column][0]
    x, y = row[column]
    shared = gcd(top, x, y)
    top = top // shared
    factor = (-x // shared, -y // shared)
    found = {key: (a[0] * top, a[1] * top) for key, a in row.items() if key != column}
    for key, pair in pivot.items():
        if key != column:
            before = found.get(key, (0, 0))
            more = pair_product(field, pair, factor)
            found[key] = (before[0] + more[0], before[1] + more[1])
    return shortened(found)


def pair_product(field, a, b):
    """Return the product of two pairs of integers."""
    if a[1] == 0 and b[1] == 0:
        return (a[0] * b[0], 0)
    return (a[0] * b[0] + field * a[1] * b[1], a[0] * b[1] + a[1] * b[0])


def values_of(field, steps, right, start):
    """Return a dict with the loose values of the unknowns, for a right side, from those that are known at the start."""
    found = dict(start)
    for column, row in reversed(steps):
        total = LOOSE_ZERO
        for key, (x, y) in row.items():
            if key == right:
                total = loose_sum(total, (x, y, 1))
            elif key in found:
                total = loose_sum(total, loose_opposite(loose_product(field, (x, y, 1), found[key])))
        x, y, d = total
        # In lowest terms the denominator is above 0 again, whatever the sign of the pivot.
        found[column] = loosened(tightened((x, y, d * row[column][0])))
    return found
