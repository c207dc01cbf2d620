"""What the tests of told chains share: sample chains, a literal reading of points 47 to 51, and numbers in a field."""

import random
from fractions import Fraction
from math import isqrt

from oddscall.equations import live_terms
from oddscall.errors import TooLarge
from oddscall.graphs import Graph
from oddscall.parts import why_not
from oddscall.solving import solve
from tests.samples import random_branches


def twice(number, ends, calls):
    """Return a procedure with one exit that ends with a chance, calls itself twice with another one, or else stops.

    Its chance x to end is the lesser solution of x = ends + calls * x * x.
    """
    left = 1 - Fraction(*ends) - Fraction(*calls)
    branches = [(ends, 3), (calls, 1)]
    if left > 0:
        branches.append(((left.numerator, left.denominator), 4))
    return (1, (("draw", tuple(branches)), ("call", number, (2,)), ("call", number, (3,)), ("exit", 0), ("stop",)))


def rooted(ends=(1, 4), calls=(1, 2)):
    """Return a chain with one curved part. As it stands, x = 1/4 + x * x / 2, so x is 1 - sqrt(2) / 2."""
    return Graph(procedures=(twice(0, ends, calls),))


def two_roots(first, second):
    """Return a chain of two procedures of the kind above, each given by its two chances."""
    return Graph(procedures=(twice(0, *first), twice(1, *second)))


def root_of_a_root(calls, ends):
    """Return a chain with x = 1 - sqrt(2) / 2 as before, and t = ends + calls * x * t * t for another procedure."""
    left = 1 - Fraction(*ends) - Fraction(*calls)
    branches = [(ends, 4), (calls, 1)]
    if left > 0:
        branches.append(((left.numerator, left.denominator), 5))
    points = (("draw", tuple(branches)), ("call", 0, (2,)), ("call", 1, (3,)), ("call", 1, (4,)), ("exit", 0), ("stop",))
    return Graph(procedures=(twice(0, (1, 4), (1, 2)), (1, points)))


def critical():
    """Return a chain with x = 1/2 + x * x / 2, whose solutions are both 1."""
    return Graph(procedures=(twice(0, (1, 2), (1, 2)),))


def straight():
    """Return a chain without curved parts, in which a loop draws, calls, is rejected and stops."""
    first = (2, (
        ("draw", (((1, 2), 1), ((1, 4), 2), ((1, 4), 5))),
        ("call", 1, (0, 3)),
        ("reward", (5, 2), 4),
        ("exit", 1),
        ("exit", 0),
        ("call", 2, ()),
    ))
    second = (2, (("draw", (((1, 5), 0), ((1, 5), 1), ((2, 5), 2), ((1, 5), 3))), ("exit", 0), ("exit", 1), ("stop",)))
    third = (0, (("draw", (((1, 3), 1), ((2, 3), 2))), ("reject",), ("call", 2, ())))
    return Graph(procedures=(first, second, third))


def with_inner_loop():
    """Return a chain whose curved part has looped groups beside the cut, with a factor from outside."""
    first = (1, (
        ("draw", (((1, 2), 1), ((1, 2), 3))),
        ("call", 0, (2,)),
        ("call", 0, (3,)),
        ("draw", (((1, 3), 4), ((1, 3), 5), ((1, 3), 6))),
        ("call", 1, (3, 7)),
        ("exit", 0),
        ("stop",),
        ("reject",),
    ))
    second = (2, (("draw", (((1, 2), 1), ((1, 2), 2))), ("exit", 0), ("exit", 1)))
    return Graph(procedures=(first, second))


def looped_before_the_call():
    """Return a chain with a loop in which the procedure is called again at the end, so that groups are looped."""
    points = (
        ("draw", (((1, 2), 1), ((1, 2), 2))),
        ("draw", (((1, 3), 0), ((1, 3), 2), ((1, 3), 4))),
        ("draw", (((1, 2), 3), ((1, 2), 5))),
        ("call", 0, (5,)),
        ("stop",),
        ("draw", (((1, 5), 6), ((4, 5), 7))),
        ("call", 0, (7,)),
        ("exit", 0),
    )
    return Graph(procedures=((1, points),))


def call_out_of_a_loop():
    """Return a chain with a looped group, one of whose terms has two factors in the part and none in the group.

    The exit 0 has the chance 1/3. The chance x of the exit 1 satisfies x = 1/3 + 2/5 * (1/6 + x / 3 + x * x).
    """
    points = (
        ("draw", (((1, 3), 1), ((1, 3), 4), ((1, 3), 5))),
        ("call", 0, (2, 3)),
        ("draw", (((1, 2), 1), ((1, 2), 5))),
        ("call", 0, (6, 6)),
        ("exit", 0),
        ("exit", 1),
        ("reward", (1, 1), 5),
    )
    return Graph(procedures=((2, points),))


def three_calls():
    """Return a chain that is not told: a procedure that calls itself three times in a row."""
    points = (("draw", (((1, 2), 1), ((1, 2), 4))), ("call", 0, (2,)), ("call", 0, (3,)), ("call", 0, (4,)), ("exit", 0))
    return Graph(procedures=((1, points),))


def call_in_a_loop():
    """Return a chain with a loop that calls the procedure, which only the second point of it cuts."""
    loop = ("draw", (((1, 2), 2), ((1, 2), 3)))
    return Graph(procedures=((1, (("draw", (((1, 3), 1), ((2, 3), 3))), loop, ("call", 0, (1,)), ("exit", 0))),))


def crossed_loops():
    """Return a chain that is not told: two procedures that call each other in their loops, and themselves behind."""
    first = (("draw", (((1, 3), 1), ((1, 3), 2), ((1, 3), 3))), ("call", 1, (0,)), ("call", 0, (0,)), ("exit", 0))
    second = (("draw", (((1, 3), 1), ((1, 3), 2), ((1, 3), 3))), ("call", 0, (0,)), ("call", 1, (0,)), ("exit", 0))
    return Graph(procedures=((1, first), (1, second)))


def tail_calls():
    """Return a chain of 6 procedures with three exits and 40 points, which call each other at their ends alone."""
    procedures = []
    for number, size in enumerate((7, 7, 7, 7, 6, 6)):
        ends = (size - 3, size - 2, size - 1)
        first = ("draw", (((1, 11), ends[number % 3]), ((2, 11), size - 5), ((3, 11), size - 4), ((5, 11), 1)))
        second = ("draw", (((1, 13), ends[2]), ((4, 13), 0), ((3, 13), size - 4), ((5, 13), size - 5)))
        calls = [("call", (number + more) % 6, (ends[2], ends[0], ends[1])) for more in (1, 2)]
        points = [first, second][:size - 5] + calls
        procedures.append((3, tuple(points + [("exit", result) for result in range(3)])))
    return Graph(procedures=tuple(procedures))


def random_recursion(seed, most=3):
    """Return a random chain in which procedures call themselves and mostly go forward; it need not be told."""
    dice = random.Random(seed)
    many = dice.randrange(1, most + 1)
    exits = [dice.choice((1, 1, 1, 2, 2, 3)) for _ in range(many)]
    ordered = dice.random() < 0.8
    procedures = []
    for number in range(many):
        size = exits[number] + dice.randrange(2, 7)
        points = []
        for index in range(size - exits[number]):
            word = dice.choice(("draw", "draw", "call", "call", "reward", "stop", "reject")) if index > 0 else "draw"
            low = index + 1 if dice.random() < 0.7 else 0
            called = number if dice.random() < 0.6 else dice.randrange(number if ordered else 0, many)
            branches = random_branches(dice, size)
            points.append({
                "draw": ("draw", tuple([(chance, dice.randrange(low, size)) for chance, _ in branches])),
                "call": ("call", called, tuple([dice.randrange(low, size) for _ in range(exits[called])])),
                "reward": ("reward", dice.choice(((0, 1), (1, 1), (7, 3), (11, 12))), dice.randrange(low, size)),
                "stop": ("stop",),
                "reject": ("reject",),
            }[word])
        points.extend([("exit", result) for result in range(exits[number])])
        procedures.append((exits[number], tuple(points)))
    return Graph(procedures=tuple(procedures))


def with_solutions(graphs):
    """Return the pairs of a graph and its solution for those that are told and whose chances lie in one field."""
    found = []
    for graph in graphs:
        if why_not(graph) is None:
            try:
                found.append((graph, solve(graph)))
            except TooLarge:
                continue
    return found


class Literal:
    """Points 47 to 51 for a chain, found by reading them word by word, without any regard to how long it takes."""

    def __init__(self, graph):
        self.live = dict(live_terms(graph))
        self.uses = self.closure({unknown: self.factors([unknown]) for unknown in self.live})
        self.parts = self.ordered(self.uses)

    def factors(self, unknowns):
        """Return the set of the factors of all live terms of the unknowns."""
        return {factor for unknown in unknowns for _, factors in self.live[unknown] for factor in factors}

    def closure(self, leads):
        """Return for each unknown the set of all to which it leads in one step or more."""
        while True:
            more = {unknown: others.union(*[leads[other] for other in others]) for unknown, others in leads.items()}
            if more == leads:
                return leads
            leads = more

    def ordered(self, leads):
        """Return the list of the classes of unknowns that lead to each other, in the order of points 47 and 48."""
        left = []
        for unknown in sorted(leads):
            mates = {other for other in leads if other == unknown or (other in leads[unknown] and unknown in leads[other])}
            if tuple(sorted(mates)) not in left:
                left.append(tuple(sorted(mates)))
        found = []
        done = set()
        while left:
            ready = [mates for mates in left if all([leads[unknown] <= done | set(mates) for unknown in mates])]
            found.append(min(ready))
            done |= set(found[-1])
            left.remove(found[-1])
        return found

    def is_curved(self, part):
        """Return True if some live term of the part has two factors in it."""
        return any([self.inside(term, part) == 2 for unknown in part for term in self.live[unknown]])

    def inside(self, term, unknowns):
        """Return how many factors of the term are among the unknowns."""
        return len([factor for factor in term[1] if factor in unknowns])

    def groups(self, part, cut):
        """Return the groups beside an unknown of the part, and to what each unknown leads beside it."""
        rest = set(part) - {cut}
        leads = self.closure({unknown: self.factors([unknown]) & rest for unknown in rest})
        return (self.ordered(leads), leads)

    def degrees(self, part, cut):
        """Return the degrees beside the unknown as a list, or None if it is no cut of the curved part."""
        groups, leads = self.groups(part, cut)
        table = {cut: 1}
        for group in groups:
            for unknown in group:
                for term in self.live[unknown]:
                    if unknown in leads[unknown] and self.inside(term, group) > 0 and self.inside(term, part) > 1:
                        return None
            outer = [term for unknown in group for term in self.live[unknown] if self.inside(term, group) == 0]
            degree = max([sum([table.get(factor, 0) for factor in factors]) for _, factors in outer])
            table.update({unknown: degree for unknown in group})
        if max([sum([table.get(factor, 0) for factor in factors]) for _, factors in self.live[cut]]) > 2:
            return None
        return [table[unknown] for unknown in part]

    def cuts(self, part):
        """Return the list of the cuts of the part."""
        return [unknown for unknown in part if self.is_curved(part) and self.degrees(part, unknown) is not None]


def sharp(field, element):
    """Return an element as a fraction of Python's own, exact if it is rational and otherwise to about 60 digits."""
    (n, d), (k, e) = element
    many = 10 ** 60
    return Fraction(n, d) + Fraction(k, e) * Fraction(isqrt(field * many * many), many)


class Root:
    """A number x + y * sqrt(field) of fractions of Python's own."""

    def __init__(self, field, x, y=0):
        self.field, self.x, self.y = field, Fraction(x), Fraction(y)

    def __add__(self, other):
        return Root(self.field, self.x + other.x, self.y + other.y)

    def __mul__(self, other):
        plain = self.x * other.x + self.field * self.y * other.y
        return Root(self.field, plain, self.x * other.y + self.y * other.x)

    def element(self):
        """Return the element of the document."""
        return ((self.x.numerator, self.x.denominator), (self.y.numerator, self.y.denominator))


def root(field, element):
    """Return the number of an element of the document."""
    return Root(field, Fraction(*element[0]), Fraction(*element[1]))


def value_at(values, unknown):
    """Return the element that the values of a solution have for an unknown."""
    number, index, way = unknown
    return values[number][index][way]


def random_values(graph, field, seed):
    """Return values of the form of point 56 that solve nothing, some of which are 0 or negative."""
    dice = random.Random(seed)

    def element():
        y = Fraction(dice.randrange(-4, 5), dice.randrange(1, 6)) if field else 0
        return Root(field, Fraction(dice.randrange(-6, 7), dice.randrange(1, 8)), y).element()

    return tuple([tuple([tuple([element() for _ in range(exits + 2)]) for _ in points]) for exits, points in graph.procedures])


def with_value(values, unknown, element):
    """Return the values with another element for an unknown."""
    number, index, way = unknown
    row = values[number][index]
    points = values[number]
    row = row[:way] + (element,) + row[way + 1:]
    points = points[:index] + (row,) + points[index + 1:]
    return values[:number] + (points,) + values[number + 1:]


def approximate(graph):
    """Return a dict with the chances of the positive unknowns in floats, by Newton's method from 0."""
    live = live_terms(graph)
    places = {unknown: at for at, (unknown, _) in enumerate(live)}
    found = [0.0] * len(live)
    for _ in range(60):
        rows = []
        for at, (_, terms) in enumerate(live):
            row = [0.0] * len(live) + [-found[at]]
            row[at] = 1.0
            for (n, d), factors in terms:
                worth = [found[places[factor]] for factor in factors]
                product = n / d
                for one in worth:
                    product *= one
                row[-1] += product
                for one, factor in enumerate(factors):
                    slope = n / d
                    for other, value in enumerate(worth):
                        slope *= value if other != one else 1.0
                    row[places[factor]] -= slope
            rows.append(row)
        steps = float_solution(rows)
        if steps is None or max([abs(step) for step in steps], default=0.0) < 1e-15:
            break
        found = [value + step for value, step in zip(found, steps)]
    return {unknown: found[places[unknown]] for unknown in places}


def float_solution(rows):
    """Return the solution of linear equations in floats, or None if a pivot is 0."""
    for at in range(len(rows)):
        best = max(range(at, len(rows)), key=lambda index: abs(rows[index][at]))
        rows[at], rows[best] = rows[best], rows[at]
        if rows[at][at] == 0.0:
            return None
        for other in range(len(rows)):
            if other != at and rows[other][at] != 0.0:
                factor = rows[other][at] / rows[at][at]
                rows[other] = [a - factor * b for a, b in zip(rows[other], rows[at])]
    return [row[-1] / row[at] for at, row in enumerate(rows)]
