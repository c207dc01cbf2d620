"""Runs along tapes, which tell what each draw and each choice takes."""

from oddscall.checks import check_graph, check_place
from oddscall.errors import BadValue
from oddscall.rationals import ONE, ZERO, plus, times
from oddscall.wholes import is_index

MOST_STEPS = 400
MOST_ITEMS = 60
MOST_BRANCHES = 4


def follow(graph, place, tape):
    """Return how far the run from the place comes along the tape."""
    check_graph(graph)
    check_place(graph, place)
    if not is_tape(tape):
        raise BadValue("tape")
    run = Run(graph, place, tape)
    while run.steps < MOST_STEPS and run.state() == "running":
        run.step()
    return run.told()


def is_tape(value):
    """Return True if the value is a tape."""
    if not isinstance(value, tuple) or len(value) > MOST_ITEMS:
        return False
    return all(is_index(item, MOST_BRANCHES) for item in value)


class Run:
    """A run along a tape, with what it has counted so far."""

    def __init__(self, graph, place, tape):
        self.graph = graph
        self.tape = tape
        self.stack = [place]
        self.steps = 0
        self.used = 0
        self.chance = ONE
        self.reward = ZERO

    def top(self):
        """Return the point at which the run is."""
        return self.graph.point_at(self.stack[-1])

    def state(self):
        """Return the word for how the run has ended, or for what it does next."""
        word = self.top()[0]
        if word == "reject":
            return "rejected"
        if word == "stop":
            return "stopped"
        if word == "exit" and len(self.stack) == 1:
            return "finished"
        if word in ("draw", "choose") and self.used == len(self.tape):
            return "waiting"
        return "running"

    def step(self):
        """Make one step."""
        point = self.top()
        self.steps += 1
        if point[0] == "call":
            self.stack.append((point[1], 0))
        elif point[0] == "exit":
            self.stack.pop()
            call = self.top()
            self.go_on(call[2][point[1]])
        else:
            self.go_on(self.target_of(point))

    def go_on(self, index):
        """Replace the top by the place of a point of the same procedure."""
        self.stack[-1] = (self.stack[-1][0], index)

    def target_of(self, point):
        """Return the point at which the run goes on from a draw, a choice or a reward."""
        if point[0] == "draw":
            chance, index = self.taken(point[1])
            self.chance = times(self.chance, chance)
            return index
        if point[0] == "choose":
            return self.taken(point[1])
        self.reward = plus(self.reward, point[1])
        return point[2]

    def taken(self, branches):
        """Return the branch, or the point, that the next item of the tape takes."""
        item = self.tape[self.used]
        if item >= len(branches):
            raise BadValue("tape")
        self.used += 1
        return branches[item]

    def told(self):
        """Return what is told of the run as far as it was followed."""
        state = self.state()
        number = self.top()[1] if state == "finished" else None
        places = tuple(self.stack) if state in ("waiting", "running") else ()
        return (state, number, self.steps, self.used, self.chance, self.reward, places)
