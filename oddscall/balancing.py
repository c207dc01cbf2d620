"""Procedures with choices and a target: what strategies take, and the values that are balanced for them.

A strategy is told here by its targets: a dict with the point that is taken at each choice.
"""

from oddscall.fields import UNIT, subtract
from oddscall.linear import linear_solution
from oddscall.points import targets_of
from oddscall.rationals import ONE, ZERO, less, plus, times
from oddscall.strategies import way_of_end


class Game:
    """The points of a procedure without calls, and whether they hit a target."""

    def __init__(self, exits, points, way):
        self.points = points
        self.ends = {}
        for index, point in enumerate(points):
            end = way_of_end(exits, point)
            if end is not None:
                self.ends[index] = ONE if end == way else ZERO
        self.choices = [index for index, point in enumerate(points) if point[0] == "choose"]

    def taken_by(self, strategy):
        """Return the targets of a strategy."""
        return {index: self.points[index][1][item] for index, item in zip(self.choices, strategy)}

    def strategy_of(self, targets):
        """Return the strategy that takes, at each choice, the target where it first stands."""
        return tuple([self.points[index][1].index(targets[index]) for index in self.choices])

    def first_targets(self):
        """Return the targets of the strategy that always takes the first point."""
        return {index: self.points[index][1][0] for index in self.choices}

    def followers(self, index, targets):
        """Return the list of the points that follow a point, with their chances; nothing follows an end."""
        point = self.points[index]
        if point[0] == "draw":
            return list(point[1])
        if point[0] == "choose":
            return [(ONE, targets[index])]
        return [(ONE, target) for target in targets_of(point)]

    def missing(self, targets):
        """Return a dict with the points from which no point that hits the target is reached."""
        many = len(self.points)
        sources = [[] for _ in range(many)]
        for index in range(many):
            for _, target in self.followers(index, targets):
                sources[target].append(index)
        waiting = [index for index, value in self.ends.items() if value == ONE]
        hitting = {index: True for index in waiting}
        while waiting:
            latest = waiting.pop()
            for source in sources[latest]:
                if source not in hitting:
                    hitting[source] = True
                    waiting.append(source)
        return {index: True for index in range(many) if index not in hitting}

    def value_at(self, index, targets, values):
        """Return the value that a point should have, from the values of the points that follow it."""
        if index in self.ends:
            return self.ends[index]
        total = ZERO
        for chance, target in self.followers(index, targets):
            total = plus(total, times(chance, values[target]))
        return total

    def values_under(self, targets, zeros):
        """Return the tuple of the values that are 0 at the given points and balanced at all others.

        From every other point, a run under the strategy has to come to an end or to one of these points in some way.
        """
        many = len(self.points)
        open_points = [index for index in range(many) if index not in zeros and index not in self.ends]
        columns = {index: column for column, index in enumerate(open_points)}
        rows = []
        rights = []
        for column, index in enumerate(open_points):
            row = {column: UNIT}
            known = ZERO
            for chance, target in self.followers(index, targets):
                if target in columns:
                    at = columns[target]
                    row[at] = subtract(0, row.get(at, (ZERO, ZERO)), (chance, ZERO))
                elif target in self.ends:
                    known = plus(known, times(chance, self.ends[target]))
            rows.append(row)
            rights.append(((known, ZERO),))
        found = linear_solution(0, rows, rights) if len(rows) > 0 else []
        values = {index: found[column][0][0] for index, column in columns.items()}
        return tuple([self.ends.get(index, values.get(index, ZERO)) for index in range(many)])

    def better_targets(self, targets, values, greatest):
        """Return the targets that are the best at these values, where they are strictly better than the given ones."""
        found = {}
        for index, target in targets.items():
            best = target
            for other in self.points[index][1]:
                low, high = (best, other) if greatest else (other, best)
                if less(values[low], values[high]):
                    best = other
            found[index] = best
        return found
