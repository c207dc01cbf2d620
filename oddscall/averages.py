"""What runs count on average in their first steps."""

from math import lcm

from oddscall.counts import count_at, count_of_return
from oddscall.masses import scaled_lengths
from oddscall.rationals import ratio


def average_at(graph, what, place, depth):
    """Return what runs from the place count on average in so many steps, for arguments that were checked."""
    tables = Averages(graph, what, graph.reached(place), depth)
    for steps in range(depth + 1):
        tables.grow(steps)
    return ratio(tables.rows[place][depth], tables.unit * tables.powers[depth])


class Averages:
    """The averages of all numbers of steps from the places that are reached, as integers.

    The average of n steps is multiplied by the unit, which makes all counts integers, and by the n-th power of the
    scale, which does so for the chances of n steps.
    """

    def __init__(self, graph, what, places, depth):
        self.graph = graph
        self.starts = places
        # From the ways of being rejected, the chances of all draws and of all exits of calls are needed.
        needed = [(place[0], place[1], graph.procedures[place[0]][0]) for place in places]
        self.scale, self.lengths = scaled_lengths(graph, needed, depth)
        self.powers = [1]
        for _ in range(depth):
            self.powers.append(self.powers[-1] * self.scale)
        counts = {place: count_at(graph.point_at(place), what) for place in places}
        self.unit = 1
        for count in counts.values():
            self.unit = lcm(self.unit, count[1])
        self.counts = {place: self.whole_count(count) for place, count in counts.items()}
        self.back = self.whole_count(count_of_return(what))
        self.rows = {place: [] for place in places}

    def whole_count(self, count):
        """Return the count as an integer."""
        return count[0] * (self.unit // count[1])

    def grow(self, steps):
        """Find the averages of so many steps, when those of fewer steps are known."""
        for place in self.starts:
            found = 0
            if steps > 0:
                found = self.counts[place] * self.powers[steps] + self.average_behind(place, steps - 1)
            self.rows[place].append(found)

    def average_behind(self, place, steps):
        """Return the average of so many steps behind the first one."""
        number = place[0]
        point = self.graph.point_at(place)
        word = point[0]
        if word == "draw":
            branches = [(n * (self.scale // d), (number, index)) for (n, d), index in point[1]]
            return sum(weight * self.rows[target][steps] for weight, target in branches)
        if word == "reward":
            return self.scale * self.rows[number, point[2]][steps]
        if word == "call":
            found = self.scale * self.rows[point[1], 0][steps]
            for result, index in enumerate(point[2]):
                found += self.average_returned((point[1], 0, result), (number, index), steps - 1)
            return found
        return 0

    def average_returned(self, unknown, target, steps):
        """Return the average behind the return of a call in this way, with so many steps for the call and the rest."""
        found = 0
        lengths = self.lengths[unknown]
        for length in range(steps + 1):
            rest = steps - length
            after = self.back * self.powers[rest] + self.rows[target][rest]
            found += lengths[length] * after
        return found * self.scale * self.scale
