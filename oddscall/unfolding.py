"""The graphs of programs."""

from oddscall.errors import BadValue, TooLarge
from oddscall.flows import Flow
from oddscall.graphs import Graph
from oddscall.problems import MOST_POINTS, MOST_POINTS_OF_ALL, MOST_PROCEDURES
from oddscall.rationals import ONE


def graph_of(program):
    """Return the graph of the program."""
    return unfolded(program).graph()


def instances(program):
    """Return the list of the instances, each a pair of a name and the values of the parameters."""
    found = unfolded(program)
    return [(program.procedures[number][0], values) for number, values in found.instances]


def situation(program, place):
    """Return the first statement that is left at a place of the graph, or None, and the values of all variables."""
    found = unfolded(program)
    if not found.graph().is_place(place):
        raise BadValue("place")
    number, index = place
    reached = found.situations[number][index]
    return (None, ()) if reached is None else reached


def unfolded(program):
    """Return the unfolding of the program, in which all points were looked at."""
    found = Unfolding(Flow(program.procedures))
    found.instance_of(0, ())
    while len(found.points) < len(found.instances):
        found.look_at(len(found.points))
    return found


class Unfolding:
    """The instances that were found so far, their situations, and the points of those that were looked at."""

    def __init__(self, flow):
        self.flow = flow
        self.instances = []
        # An idle situation is told by None.
        self.situations = []
        self.points = []
        self.many = 0

    def graph(self):
        """Return the graph, if all instances were looked at."""
        procedures = []
        for (number, _), points in zip(self.instances, self.points):
            procedures.append((self.flow.procedures[number][2], points))
        return Graph(procedures=tuple(procedures))

    def instance_of(self, number, values):
        """Return the index of the instance of a procedure with these values of its parameters."""
        if (number, values) not in self.instances:
            if len(self.instances) == MOST_PROCEDURES:
                raise TooLarge("procedures")
            self.instances.append((number, values))
            self.situations.append([])
            self.point_for(len(self.instances) - 1, self.flow.beginning(number, values))
        return self.instances.index((number, values))

    def point_for(self, instance, begun):
        """Return the index of the point to which a situation of the instance settles."""
        reached = self.flow.settled(begun)
        found = self.situations[instance]
        if reached not in found:
            if len(found) == MOST_POINTS or self.many == MOST_POINTS_OF_ALL:
                raise TooLarge("points")
            found.append(reached)
            self.many += 1
        return found.index(reached)

    def look_at(self, instance):
        """Find the points of an instance, and whatever they lead to."""
        points = []
        while len(points) < len(self.situations[instance]):
            points.append(self.new_point(instance, len(points)))
        self.points.append(tuple(points))

    def new_point(self, instance, index):
        """Return the point of an instance with this index."""
        reached = self.situations[instance][index]
        if reached is None:
            return ("draw", ((ONE, index),))
        number, values = reached
        if number is None:
            return ("exit", 0)
        step = self.flow.steps[number]
        if step.word == "draw":
            targets = [self.point_for(instance, (begin, values)) for begin in step.blocks]
            return ("draw", tuple([(chance, target) for (chance, _), target in zip(step.statement[1], targets)]))
        if step.word == "choose":
            return ("choose", tuple([self.point_for(instance, (begin, values)) for begin in step.blocks]))
        if step.word == "reward":
            return ("reward", step.statement[1], self.point_for(instance, (step.behind, values)))
        if step.word == "call":
            return self.call_at(instance, number, values)
        if step.word == "return":
            find = step.terms[0]
            return ("exit", find(values) % self.flow.procedures[self.instances[instance][0]][2])
        return ("stop",) if step.word == "stop" else ("reject",)

    def call_at(self, instance, number, values):
        """Return the point for a call, the statement with this number, at which the variables have these values."""
        name = self.flow.steps[number].statement[2]
        called = self.instance_of(self.flow.numbers[name], self.flow.given(number, values))
        behind = self.flow.steps[number].behind
        targets = []
        for result in range(self.flow.results_of(name)):
            targets.append(self.point_for(instance, (behind, self.flow.changed(number, values, result))))
        return ("call", called, tuple(targets))
