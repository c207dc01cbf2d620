"""Points 136 to 140 read word by word: situations as whole lists of statements, and runs of programs themselves."""

from fractions import Fraction


class Steps(Exception):
    """A way to one settling is too long."""


class Full(Exception):
    """There are too many of something, told by its word."""


class Reading:
    """A program whose statements are numbered, each with its blocks as tuples of numbers."""

    def __init__(self, procedures):
        self.procedures = procedures
        self.statements = []
        self.blocks = []
        self.bodies = [self.numbered(body) for _, _, _, _, body in procedures]

    def numbered(self, block):
        """Return the tuple of the numbers of the statements of a block."""
        found = []
        for statement in block:
            found.append(len(self.statements))
            self.statements.append(statement)
            self.blocks.append(None)
            inner = {"if": statement[2:], "while": statement[2:]}.get(statement[0], ())
            if statement[0] == "draw":
                inner = [one for _, one in statement[1]]
            elif statement[0] == "choose":
                inner = statement[1]
            self.blocks[found[-1]] = [self.numbered(one) for one in inner]
        return tuple(found)

    def names(self, number):
        """Return the list of the pairs of all parameters and variables of a procedure."""
        return list(self.procedures[number][1] + self.procedures[number][3])

    def value(self, number, tree, values):
        """Return the value of an expression in a procedure."""
        if tree[0] == "int":
            return tree[1]
        if tree[0] == "name":
            return values[[name for name, _ in self.names(number)].index(tree[1])]
        one, other = self.value(number, tree[1], values), self.value(number, tree[2], values)
        return {"plus": one + other, "minus": one - other, "times": one * other}[tree[0]]

    def holds(self, number, tree, values):
        """Return True if a condition holds in a procedure."""
        if tree[0] == "not":
            return not self.holds(number, tree[1], values)
        if tree[0] in ("and", "or"):
            both = [self.holds(number, one, values) for one in tree[1:]]
            return all(both) if tree[0] == "and" else any(both)
        one, other = [self.value(number, term, values) for term in tree[1:]]
        return {"eq": one == other, "lt": one < other, "le": one <= other}[tree[0]]

    def put(self, number, values, name, value):
        """Return the values after a value was put into a variable."""
        if name is None:
            return values
        names = self.names(number)
        at = [one for one, _ in names].index(name)
        found = value
        while found < 0:
            found += names[at][1] * (1 + abs(value) // names[at][1])
        return values[:at] + (found % names[at][1],) + values[at + 1:]

    def beginning(self, number, values):
        """Return the situation at the beginning of a procedure."""
        return (self.bodies[number], tuple(values) + (0,) * len(self.procedures[number][3]))

    def silent(self, number, situation):
        """Return the situation behind a first statement that is silent, or None."""
        left, values = situation
        if not left:
            return None
        statement, blocks, rest = self.statements[left[0]], self.blocks[left[0]], left[1:]
        if statement[0] == "set":
            return (rest, self.put(number, values, statement[1], self.value(number, statement[2], values)))
        if statement[0] == "if":
            return (blocks[0 if self.holds(number, statement[1], values) else 1] + rest, values)
        if statement[0] == "while":
            return (blocks[0] + left if self.holds(number, statement[1], values) else rest, values)
        if statement[0] == "observe" and self.holds(number, statement[1], values):
            return (rest, values)
        return None

    def settled(self, number, situation):
        """Return the settled situation, or "idle"."""
        way = [situation]
        while True:
            after = self.silent(number, way[-1])
            if after is None:
                found = way[-1]
                break
            if after in way:
                way.append(after)
                found = "idle"
                break
            way.append(after)
            if len(way) > 1200:
                raise Steps()
        if len(way) - 1 > 1000:
            raise Steps()
        return found

    def given(self, statement, number, values):
        """Return the procedure that is called and the values of its parameters."""
        called = [one[0] for one in self.procedures].index(statement[2])
        found = ()
        for term, (name, size) in zip(statement[3], self.procedures[called][1]):
            found += self.put(called, (0,) * len(self.names(called)), name, self.value(number, term, values))[len(found):len(found) + 1]
        return (called, found)


class Unfolded:
    """The graph of a program by points 138 and 139."""

    def __init__(self, procedures):
        self.reading = Reading(procedures)
        self.instances = []
        self.situations = []
        self.points = []
        self.find_instance(0, ())
        for at in range(7):
            if at == len(self.instances):
                break
            self.points.append([])
            while len(self.points[at]) < len(self.situations[at]):
                self.points[at].append(self.point(at, self.situations[at][len(self.points[at])]))

    def procedures(self):
        """Return the procedures of the graph."""
        return tuple([(self.reading.procedures[number][2], tuple(row)) for (number, _), row in zip(self.instances, self.points)])

    def find_instance(self, number, values):
        """Return the index of an instance."""
        if (number, values) not in self.instances:
            if len(self.instances) == 6:
                raise Full("procedures")
            self.instances.append((number, values))
            self.situations.append([])
            self.find(len(self.instances) - 1, self.reading.beginning(number, values))
        return self.instances.index((number, values))

    def find(self, at, situation):
        """Return the index of the point to which a situation of an instance leads."""
        found = self.reading.settled(self.instances[at][0], situation)
        if found not in self.situations[at]:
            if len(self.situations[at]) == 16 or sum([len(row) for row in self.situations]) == 40:
                raise Full("points")
            self.situations[at].append(found)
        return self.situations[at].index(found)

    def point(self, at, situation):
        """Return the point for a settled or idle situation."""
        number = self.instances[at][0]
        if situation == "idle":
            return ("draw", (((1, 1), self.situations[at].index("idle")),))
        left, values = situation
        if not left:
            return ("exit", 0)
        statement, rest = self.reading.statements[left[0]], left[1:]
        blocks = [block + rest for block in self.reading.blocks[left[0]]]
        if statement[0] == "draw":
            return ("draw", tuple([(one, self.find(at, (block, values))) for (one, _), block in zip(statement[1], blocks)]))
        if statement[0] == "choose":
            return ("choose", tuple([self.find(at, (block, values)) for block in blocks]))
        if statement[0] == "reward":
            return ("reward", statement[1], self.find(at, (rest, values)))
        if statement[0] == "call":
            called, given = self.reading.given(statement, number, values)
            index = self.find_instance(called, given)
            behind = [(rest, self.reading.put(number, values, statement[1], result)) for result in range(self.reading.procedures[called][2])]
            return ("call", index, tuple([self.find(at, one) for one in behind]))
        if statement[0] == "return":
            return ("exit", self.reading.value(number, statement[1], values) % self.reading.procedures[number][2])
        return {"stop": ("stop",), "observe": ("reject",)}[statement[0]]

    def told(self, place):
        """Return what is told of the situation at a place."""
        found = self.situations[place[0]][place[1]]
        if found == "idle":
            return (None, ())
        return (found[0][0] if found[0] else None, found[1])


def run_masses(procedures, depth):
    """Return a dict with the chance that a run of a program has ended so after at most so many steps, for each end.

    All runs are followed side by side, statement by statement. An end is a result, "rejected" or "stopped".
    """
    reading = Reading(procedures)
    found = {}
    now = {((0, *reading.beginning(0, ()), None),): Fraction(1)}
    for _ in range(depth + 1):
        after = {}
        for stack, weight in now.items():
            for more, other in visible_step(reading, stack, found, weight):
                after[other] = after.get(other, 0) + more
        now = after
    return found


def visible_step(reading, stack, found, weight):
    """Return the pairs of a chance and a stack behind the next step, or count an end of the run."""
    number, left, values, name = stack[-1]
    settled = reading.settled(number, (left, values))
    if settled == "idle":
        return []
    left, values = settled
    statement = reading.statements[left[0]] if left else ("return", ("int", 0))
    if statement[0] in ("observe", "stop"):
        end = "rejected" if statement[0] == "observe" else "stopped"
        found[end] = found.get(end, 0) + weight
        return []
    if statement[0] == "return":
        result = reading.value(number, statement[1], values) % reading.procedures[number][2]
        if len(stack) == 1:
            found[result] = found.get(result, 0) + weight
            return []
        caller, rest, before, target = stack[-2]
        values = reading.put(caller, before, name, result)
        return [(weight, stack[:-2] + ((caller, rest, values, target),))]
    rest = left[1:]
    if statement[0] == "draw":
        blocks = [block + rest for block in reading.blocks[left[0]]]
        return [(weight * Fraction(*one), stack[:-1] + ((number, block, values, name),)) for (one, _), block in zip(statement[1], blocks)]
    if statement[0] == "reward":
        return [(weight, stack[:-1] + ((number, rest, values, name),))]
    called, given = reading.given(statement, number, values)
    return [(weight, stack[:-1] + ((number, rest, values, name), (called, *reading.beginning(called, given), statement[1])))]
