"""What the statements of a program do, and which statements are left behind them.

A situation is a pair: the number of the first statement that is left, or None, and the tuple of the values of all
parameters and variables. The other statements that are left follow from the first one.
"""

from oddscall.errors import TooLarge

MOST_SILENT = 1000


class Step:
    """A statement, with what is left behind it and at the beginnings of its blocks, and its parts as functions."""

    def __init__(self, statement, behind, slots):
        self.statement = statement
        self.word = statement[0]
        self.behind = behind
        self.blocks = []
        self.test = None
        self.terms = []
        self.slot = None
        if self.word in ("if", "while", "observe"):
            self.test = truth_of(statement[1], slots)
        elif self.word == "set":
            self.terms = [value_of(statement[2], slots)]
        elif self.word == "return":
            self.terms = [value_of(statement[1], slots)]
        elif self.word == "call":
            self.terms = [value_of(term, slots) for term in statement[3]]
        if self.word in ("set", "call") and statement[1] is not None:
            self.slot = slots[statement[1]]


class Flow:
    """The steps of all statements of a program by their numbers, and the first statement of each procedure."""

    def __init__(self, procedures):
        self.procedures = procedures
        self.steps = []
        self.starts = []
        self.sizes = []
        self.numbers = {procedure[0]: number for number, procedure in enumerate(procedures)}
        # The procedure to which each statement belongs.
        self.owners = []
        for number, (_, parameters, _, variables, body) in enumerate(procedures):
            slots = {name: slot for slot, (name, _) in enumerate(parameters + variables)}
            self.sizes.append([size for _, size in parameters + variables])
            self.starts.append(self.add_block(body, None, slots))
            self.owners.extend([number] * (len(self.steps) - len(self.owners)))

    def add_block(self, block, behind, slots):
        """Add the statements of a block, and return the first statement that is left at its beginning."""
        begins = [len(self.steps)]
        for statement in block:
            begins.append(begins[-1] + size_of(statement))
        for at, statement in enumerate(block):
            self.add_statement(statement, begins[at + 1] if at + 1 < len(block) else behind, slots)
        return begins[0] if len(block) > 0 else behind

    def add_statement(self, statement, behind, slots):
        """Add a statement and those in its blocks."""
        number = len(self.steps)
        step = Step(statement, behind, slots)
        self.steps.append(step)
        left = number if step.word == "while" else behind
        for block in blocks_of(statement):
            step.blocks.append(self.add_block(block, left, slots))

    def beginning(self, number, values):
        """Return the situation at the beginning of a procedure with these values of its parameters."""
        more = len(self.sizes[number]) - len(values)
        return (self.starts[number], values + (0,) * more)

    def settled(self, situation):
        """Return the settled situation to which a situation leads, or None if the run is idle."""
        seen = set()
        after = self.silent_step(situation)
        while after is not None:
            if situation in seen:
                return None
            if len(seen) == MOST_SILENT:
                raise TooLarge("steps")
            seen.add(situation)
            situation = after
            after = self.silent_step(situation)
        return situation

    def silent_step(self, situation):
        """Return the situation behind the first statement if it is silent, or None if the situation is settled."""
        number, values = situation
        if number is None:
            return None
        step = self.steps[number]
        if step.word == "set":
            find = step.terms[0]
            return (step.behind, self.changed(number, values, find(values)))
        test = step.test
        if test is None:
            return None
        holds = test(values)
        if step.word == "if":
            return (step.blocks[0 if holds else 1], values)
        if step.word == "while":
            return (step.blocks[0] if holds else step.behind, values)
        return (step.behind, values) if holds else None

    def changed(self, number, values, value):
        """Return the values after a value was put into the variable of a statement, if it has one."""
        slot = self.steps[number].slot
        if slot is None:
            return values
        size = self.sizes[self.owners[number]][slot]
        return values[:slot] + (value % size,) + values[slot + 1:]

    def results_of(self, name):
        """Return the number of results of the procedure with this name."""
        return self.procedures[self.numbers[name]][2]

    def given(self, number, values):
        """Return what the statement with this number, a call, gives as values of parameters."""
        step = self.steps[number]
        _, parameters, _, _, _ = self.procedures[self.numbers[step.statement[2]]]
        return tuple([find(values) % size for find, (_, size) in zip(step.terms, parameters)])


def blocks_of(statement):
    """Return the list of the blocks of a statement."""
    word = statement[0]
    if word == "if":
        return [statement[2], statement[3]]
    if word == "while":
        return [statement[2]]
    if word == "draw":
        return [block for _, block in statement[1]]
    return list(statement[1]) if word == "choose" else []


def size_of(statement):
    """Return the number of statements that a statement consists of, itself included."""
    return 1 + sum(size_of(inner) for block in blocks_of(statement) for inner in block)


def value_of(expression, slots):
    """Return the function that tells the value of an expression from the values of the variables in these slots."""
    word = expression[0]
    if word == "int":
        number = expression[1]
        return lambda values: number
    if word == "name":
        slot = slots[expression[1]]
        return lambda values: values[slot]
    first = value_of(expression[1], slots)
    second = value_of(expression[2], slots)
    if word == "plus":
        return lambda values: first(values) + second(values)
    if word == "minus":
        return lambda values: first(values) - second(values)
    return lambda values: first(values) * second(values)


def truth_of(condition, slots):
    """Return the function that tells from the values of the variables in these slots whether a condition holds."""
    word = condition[0]
    if word == "not":
        inner = truth_of(condition[1], slots)
        return lambda values: not inner(values)
    if word in ("and", "or"):
        one = truth_of(condition[1], slots)
        other = truth_of(condition[2], slots)
        if word == "and":
            return lambda values: one(values) and other(values)
        return lambda values: one(values) or other(values)
    first = value_of(condition[1], slots)
    second = value_of(condition[2], slots)
    if word == "eq":
        return lambda values: first(values) == second(values)
    if word == "lt":
        return lambda values: first(values) < second(values)
    return lambda values: first(values) <= second(values)
