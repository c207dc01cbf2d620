"""Points 117 to 123, and oddscall/ledger.py."""

import random
import unittest

from oddscall.chances import chance
from oddscall.errors import OddsError, TooLarge
from oddscall.graphs import Graph
from oddscall.ledger import Ledger, replay
from oddscall.solving import solve
from tests.helpers import ODD_VALUES, error_of
from tests.samples import all_kinds, greatest_chain, walk
from tests.told import critical, rooted, straight, tail_calls, three_calls, two_roots

FIRST = (1, (("draw", (((1, 2), 1), ((1, 2), 2))), ("exit", 0), ("stop",), ("call", 1, (1,))))
SECOND = (1, (("draw", (((1, 3), 1), ((2, 3), 2))), ("exit", 0), ("stop",)))


def example():
    """Return the graph of the document."""
    return Graph(procedures=(FIRST, SECOND))


def state_of(ledger):
    """Return all that a ledger tells, but for errors."""
    graph = ledger.graph()
    many = 0
    while error_of(ledger.fact, many) is None:
        many += 1
    return (
        graph.procedures, [ledger.fact(number) for number in range(many)], [ledger.stands(number) for number in range(many)],
        ledger.standing(), ledger.edits(), [ledger.falling(place) for place in graph.places()],
        [ledger.rests_on(place) for place in graph.places()])


class Model:
    """A ledger by its points: the states before each move are kept whole."""

    def __init__(self, graph):
        self.procedures = graph.procedures
        self.facts = []
        self.upright = set()
        self.before = []

    def keep(self, word, more=None):
        """Keep the present state as the one before a move."""
        self.before.append((word, more, self.procedures, list(self.facts), set(self.upright)))

    def record(self, place, way, number):
        """Record a fact, and return its number."""
        self.keep("record")
        self.facts.append((place, way, number))
        self.upright.add(len(self.facts) - 1)
        return len(self.facts) - 1

    def falling(self, place):
        """Return the numbers of the facts that would fall by an edit of the place."""
        return sorted([number for number in self.upright if place in self.reached(self.facts[number][0])])

    def reached(self, place):
        """Return the places on which a place rests, in their order."""
        found = {place}
        while True:
            more = set(found)
            for number, index in found:
                point = self.procedures[number][1][index]
                named = {"draw": [target for _, target in point[1]] if point[0] == "draw" else [], "reward": list(point[2:]),
                         "call": list(point[2]) if point[0] == "call" else []}.get(point[0], [])
                more |= {(number, target) for target in named}
                if point[0] == "call":
                    more.add((point[1], 0))
            if more == found:
                return sorted(found)
            found = more

    def edit(self, place, point):
        """Put a point in a place, and return the numbers of the facts that fall."""
        fallen = self.falling(place)
        self.keep("edit", (place, point))
        exits, points = self.procedures[place[0]]
        points = tuple([point if index == place[1] else old for index, old in enumerate(points)])
        self.procedures = tuple([(exits, points) if number == place[0] else old for number, old in enumerate(self.procedures)])
        self.upright -= set(fallen)
        return fallen

    def undo(self):
        """Take the last move back."""
        if self.before == []:
            return None
        word, _, self.procedures, self.facts, self.upright = self.before.pop()
        return word

    def state(self):
        """Return what a ledger should tell."""
        graph = Graph(procedures=self.procedures)
        return (
            self.procedures, self.facts, [number in self.upright for number in range(len(self.facts))], sorted(self.upright),
            [more for word, more, *_ in self.before if word == "edit"], [self.falling(place) for place in graph.places()],
            [self.reached(place) for place in graph.places()])


def random_point(dice, graph, place):
    """Return a random point for a place of a graph, which need not make a told chain of it."""
    number = place[0]
    exits, points = graph.procedures[number]
    many = len(points)
    called = dice.randrange(len(graph.procedures))
    return dice.choice((
        ("draw", (((1, 2), dice.randrange(many)), ((1, 2), dice.randrange(many)))),
        ("draw", (((2, 3), dice.randrange(many)), ((1, 3), dice.randrange(many)))),
        ("reward", (1, 2), dice.randrange(many)), ("stop",), ("reject",), ("exit", dice.randrange(exits + 1)),
        ("call", called, tuple([dice.randrange(many) for _ in range(graph.procedures[called][0])])),
        ("choose", (dice.randrange(many),)), points[place[1]], ("draw", ()), ("exit",), None))


class MovesTest(unittest.TestCase):
    def test_the_example(self):
        ledger = Ledger(example())
        self.assertEqual(ledger.record(solve(ledger.graph()), (0, 0), 0), 0)
        self.assertEqual(ledger.record(solve(ledger.graph()), (0, 3), 0), 1)
        self.assertEqual(ledger.fact(1), ((0, 3), 0, ("rational", (1, 3))))
        self.assertEqual(ledger.rests_on((0, 3)), [(0, 1), (0, 3), (1, 0), (1, 1), (1, 2)])
        self.assertEqual(ledger.edit((1, 0), ("exit", 0)), [1])
        self.assertEqual((ledger.standing(), ledger.stands(0), ledger.stands(1)), ([0], True, False))
        self.assertEqual(ledger.fact(1), ((0, 3), 0, ("rational", (1, 3))))
        self.assertEqual(ledger.undo(), "edit")
        self.assertEqual(ledger.standing(), [0, 1])

    def test_long_rows_of_moves(self):
        words = {}
        for seed in range(14):
            dice = random.Random(seed)
            graph = (example(), walk(), straight(), rooted(), two_roots(((1, 4), (1, 2)), ((1, 6), (1, 6))), critical())[seed % 6]
            ledger, model = Ledger(graph), Model(graph)
            for _ in range(70):
                present = ledger.graph()
                place = dice.choice(present.places())
                word = dice.choice(("record", "record", "edit", "edit", "edit", "undo"))
                try:
                    if word == "record":
                        solution = solve(present)
                        way = dice.choice(present.ways(place))
                        number = ledger.record(solution, place, way)
                        self.assertEqual(number, model.record(place, way, chance(present, solution, place, way)))
                    elif word == "edit":
                        point = random_point(dice, present, place)
                        fallen = ledger.edit(place, point)
                        self.assertEqual(fallen, model.edit(place, point))
                    else:
                        self.assertEqual(ledger.undo(), model.undo())
                except OddsError:
                    word = "error"
                words[word] = words.get(word, 0) + 1
                self.assertEqual(state_of(ledger), model.state())
                self.check_facts(ledger)
            while model.before:
                self.assertEqual(ledger.undo(), model.undo())
                self.assertEqual(state_of(ledger), model.state())
            self.assertIsNone(ledger.undo())
            self.assertEqual(ledger.graph().procedures, graph.procedures)
        self.assertGreater(min(words.values()), 50)

    def check_facts(self, ledger):
        """Check that each fact that stands is true of the present graph, if it has a solution."""
        try:
            solution = solve(ledger.graph())
        except TooLarge:
            return
        for number in ledger.standing():
            place, way, wanted = ledger.fact(number)
            self.assertEqual(chance(ledger.graph(), solution, place, way), wanted)

    def test_the_same_point_again(self):
        ledger = Ledger(example())
        ledger.record(solve(example()), (0, 3), 0)
        self.assertEqual(ledger.edit((1, 1), ("exit", 0)), [0])
        self.assertEqual(ledger.graph().procedures, example().procedures)
        self.assertEqual((ledger.stands(0), ledger.edits()), (False, [((1, 1), ("exit", 0))]))
        # A fact that has fallen falls no more, and stays a fact.
        self.assertEqual(ledger.edit((1, 1), ("exit", 0)), [])
        self.assertEqual(ledger.fact(0), ((0, 3), 0, ("rational", (1, 3))))
        self.assertEqual((ledger.undo(), ledger.stands(0)), ("edit", False))
        self.assertEqual((ledger.undo(), ledger.stands(0)), ("edit", True))

    def test_it_is_the_graph_before_the_edit_that_counts(self):
        # The edit cuts the way to the second procedure, and another one leads to it.
        ledger = Ledger(example())
        solution = solve(example())
        for place in ((0, 0), (0, 3), (1, 0)):
            ledger.record(solution, place, 0)
        self.assertEqual(ledger.edit((0, 0), ("call", 1, (1,))), [0])
        self.assertEqual(ledger.record(solve(ledger.graph()), (0, 0), 0), 3)
        self.assertEqual(ledger.falling((1, 2)), [1, 2, 3])
        self.assertEqual(ledger.edit((0, 3), ("stop",)), [1])
        self.assertEqual(ledger.edit((1, 2), ("reject",)), [2, 3])
        self.assertEqual(ledger.standing(), [])

    def test_facts_of_ways_that_are_not_positive_fall_too(self):
        ledger = Ledger(example())
        self.assertEqual(ledger.record(solve(example()), (0, 0), 1), 0)
        self.assertEqual(ledger.fact(0), ((0, 0), 1, ("rational", (0, 1))))
        self.assertEqual(ledger.edit((0, 2), ("stop",)), [0])

    def test_numbers_are_given_again(self):
        ledger = Ledger(example())
        solution = solve(example())
        self.assertEqual([ledger.record(solution, (0, 0), way) for way in range(3)], [0, 1, 2])
        self.assertEqual(ledger.undo(), "record")
        self.assertEqual(error_of(ledger.fact, 2), ("BadValue", "number"))
        self.assertEqual(error_of(ledger.stands, 2), ("BadValue", "number"))
        self.assertEqual(ledger.record(solution, (1, 0), 0), 2)
        self.assertEqual(ledger.fact(2), ((1, 0), 0, ("rational", (1, 3))))
        ledger.edit((1, 0), ("stop",))
        self.assertEqual((ledger.undo(), ledger.undo()), ("edit", "record"))
        self.assertEqual(ledger.record(solution, (0, 3), 2), 2)

    def test_no_move(self):
        ledger = Ledger(example())
        self.assertIsNone(ledger.undo())
        ledger.edit((0, 2), ("reject",))
        self.assertEqual([ledger.undo(), ledger.undo(), ledger.undo()], ["edit", None, None])
        self.assertEqual(ledger.graph().procedures, example().procedures)

    def test_roots(self):
        ledger = Ledger(rooted())
        ledger.record(solve(rooted()), (0, 0), 0)
        self.assertEqual(ledger.fact(0), ((0, 0), 0, ("root", (1, -4, 2), 0)))
        self.assertEqual(ledger.edit((0, 0), ("draw", (((1, 3), 3), ((1, 2), 1), ((1, 6), 4)))), [0])
        self.assertEqual(ledger.record(solve(ledger.graph()), (0, 0), 0), 1)
        self.assertEqual(ledger.fact(1)[2], ("root", (2, -6, 3), 0))

    def test_a_chain_whose_chances_need_two_fields(self):
        graph = two_roots(((1, 4), (1, 2)), ((1, 3), (1, 2)))
        ledger = Ledger(graph)
        self.assertEqual(error_of(solve, ledger.graph()), ("TooLarge", "field"))
        self.assertEqual(ledger.edit((1, 0), ("exit", 0)), [])
        self.assertEqual(ledger.record(solve(ledger.graph()), (1, 0), 0), 0)


class ErrorsTest(unittest.TestCase):
    def ledger(self):
        """Return a ledger with facts and moves."""
        ledger = Ledger(example())
        ledger.record(solve(example()), (0, 3), 0)
        ledger.record(solve(example()), (0, 0), 0)
        ledger.edit((1, 2), ("reject",))
        return ledger

    def check(self, method, arguments, error):
        """Check the error of a call, and that nothing changes by it."""
        ledger = self.ledger()
        before = state_of(ledger)
        self.assertEqual(error_of(getattr(ledger, method), *arguments), error, arguments)
        self.assertEqual(state_of(ledger), before)
        self.assertEqual([ledger.undo() for _ in range(4)], ["edit", "record", "record", None])

    def test_new_ledgers(self):
        for value in ODD_VALUES + (0, example().procedures):
            self.assertEqual(error_of(Ledger, value), ("BadValue", "graph"), value)
            self.assertEqual(error_of(replay, value, None), ("BadValue", "graph"), value)
        for graph, reason in ((all_kinds(), ("choices",)), (three_calls(), ("part", 1)), (greatest_chain(), ("part", 6))):
            self.assertEqual(error_of(Ledger, graph), ("NotTold", reason))
            self.assertEqual(error_of(replay, graph, None), ("NotTold", reason))

    def test_record(self):
        present = self.ledger().graph()
        for value in ODD_VALUES + (solve(example()), solve(walk())):
            self.check("record", (value, None, None), ("BadValue", "solution"))
        for value in ODD_VALUES + (0, (0, 4), (2, 0), (0, -1), [0, 0], (0, True), (0, 0, 0)):
            self.check("record", (solve(present), value, None), ("BadValue", "place"))
        for value in ODD_VALUES + (-1, 3, (0,)):
            self.check("record", (solve(present), (0, 0), value), ("BadValue", "way"))

    def test_edit(self):
        for value in ODD_VALUES + (0, (0, 4), (2, 0), (0, -1), [0, 0], (0, True), (0, 0, 0)):
            self.check("edit", (value, None), ("BadValue", "place"))
        for value, why in ((None, "form"), (["stop"], "form"), (("stop", 1), "form"), (("exit", 1), "exit"), (("exit", True), "form"),
                           (("draw", ()), "branches"), (("draw", (((1, 2), 0),)), "sum"), (("draw", (((1, 61), 0),)), "chance"),
                           (("draw", (((1, 1), 9),)), "point"), (("call", 2, ()), "procedure"), (("call", 1, ()), "branches"),
                           (("reward", (-1, 1), 0), "amount"), (("choose", ()), "branches"), (("choose", (4,)), "point"), ((), "form")):
            self.check("edit", ((0, 3), value), ("BadGraph", (0, 3), why))
        self.check("edit", ((0, 3), ("choose", (0, 1))), ("NotTold", ("choices",)))
        self.check("edit", ((1, 1), ("choose", (0, 1))), ("NotTold", ("choices",)))

    def test_an_edit_by_which_the_chain_is_not_told_any_more(self):
        points = (("draw", (((1, 2), 1), ((1, 2), 4))), ("call", 0, (2,)), ("call", 0, (3,)), ("reward", (1, 1), 4), ("exit", 0))
        ledger = Ledger(Graph(procedures=((1, points),)))
        before = state_of(ledger)
        self.assertEqual(error_of(ledger.edit, (0, 3), ("call", 0, (4,))), ("NotTold", ("part", 1)))
        self.assertEqual(state_of(ledger), before)

    def test_numbers_and_places(self):
        for value in ODD_VALUES + (-1, 2, (0,), "0"):
            self.check("fact", (value,), ("BadValue", "number"))
            self.check("stands", (value,), ("BadValue", "number"))
        for value in ODD_VALUES + (0, (0, 4), (2, 0), (0, -1), [0, 0], (0, True), (0, 0, 0)):
            self.check("falling", (value,), ("BadValue", "place"))
            self.check("rests_on", (value,), ("BadValue", "place"))


class BoundsTest(unittest.TestCase):
    def full(self):
        """Return a ledger with 100 moves."""
        ledger = Ledger(example())
        for number in range(50):
            ledger.edit((0, 2), (("stop",), ("reject",))[number % 2])
            ledger.record(solve(ledger.graph()), (0, 0), number % 3)
        return ledger

    def test_the_hundredth_move_and_the_next_one(self):
        ledger = self.full()
        solution = solve(ledger.graph())
        before = state_of(ledger)
        self.assertEqual(len(ledger.edits()), 50)
        self.assertEqual(error_of(ledger.record, solution, (0, 0), 0), ("TooLarge", "moves"))
        self.assertEqual(error_of(ledger.edit, (0, 2), ("stop",)), ("TooLarge", "moves"))
        # All other errors come first.
        self.assertEqual(error_of(ledger.record, None, (0, 0), 0), ("BadValue", "solution"))
        self.assertEqual(error_of(ledger.record, solution, (0, 9), 0), ("BadValue", "place"))
        self.assertEqual(error_of(ledger.record, solution, (0, 0), 3), ("BadValue", "way"))
        self.assertEqual(error_of(ledger.edit, (0, 9), ("stop",)), ("BadValue", "place"))
        self.assertEqual(error_of(ledger.edit, (0, 2), ("exit", 1)), ("BadGraph", (0, 2), "exit"))
        self.assertEqual(error_of(ledger.edit, (0, 2), ("choose", (1,))), ("NotTold", ("choices",)))
        self.assertEqual(state_of(ledger), before)
        self.assertEqual(ledger.undo(), "record")
        self.assertEqual(ledger.edit((0, 2), ("stop",)), [])
        self.assertEqual(error_of(ledger.edit, (0, 2), ("stop",)), ("TooLarge", "moves"))
        self.assertEqual([ledger.undo() for _ in range(101)], ["edit", "edit"] + ["record", "edit"] * 49 + [None])
        self.assertEqual(state_of(ledger), state_of(Ledger(example())))

    def test_a_copy_is_as_full(self):
        ledger = self.full().copy()
        self.assertEqual(error_of(ledger.edit, (0, 2), ("stop",)), ("TooLarge", "moves"))
        self.assertEqual(ledger.undo(), "record")


class CopiesTest(unittest.TestCase):
    def ledger(self):
        """Return a ledger with facts, one of which has fallen."""
        ledger = Ledger(example())
        ledger.record(solve(example()), (0, 3), 0)
        ledger.record(solve(example()), (0, 0), 0)
        ledger.edit((1, 2), ("reject",))
        return ledger

    def test_moves_of_their_own(self):
        for changed, kept in ((0, 1), (1, 0)):
            pair = [self.ledger(), None]
            pair[1] = pair[0].copy()
            self.assertEqual(state_of(pair[0]), state_of(pair[1]))
            self.assertIsInstance(pair[1], Ledger)
            before = state_of(pair[kept])
            self.assertEqual(pair[changed].edit((0, 0), ("exit", 0)), [1])
            pair[changed].record(solve(pair[changed].graph()), (0, 0), 0)
            self.assertEqual(state_of(pair[kept]), before)
            self.assertEqual([pair[changed].undo() for _ in range(3)], ["record", "edit", "edit"])
            self.assertEqual(pair[changed].standing(), [0, 1])
            self.assertEqual(state_of(pair[kept]), before)
            self.assertEqual([pair[kept].undo() for _ in range(4)], ["edit", "record", "record", None])
            self.assertEqual(pair[changed].standing(), [0, 1])

    def test_changed_lists(self):
        ledger = self.ledger()
        ledger.record(solve(ledger.graph()), (0, 0), 2)
        before = state_of(ledger)
        for found in (ledger.standing(), ledger.falling((0, 0)), ledger.rests_on((0, 3)), ledger.edits(), ledger.graph().places()):
            self.assertIsInstance(found, list)
            found.clear()
        self.assertEqual(state_of(ledger), before)
        fallen = ledger.edit((0, 0), ("stop",))
        self.assertEqual(fallen, [1, 2])
        fallen.clear()
        ledger.undo()
        self.assertEqual(state_of(ledger), before)

    def test_a_graph_that_is_changed(self):
        graph = example()
        ledger = Ledger(graph)
        graph.procedures = walk().procedures
        self.assertEqual(ledger.graph().procedures, example().procedures)
        ledger.graph().procedures = ()
        self.assertEqual(ledger.graph().procedures, example().procedures)


class ReplayTest(unittest.TestCase):
    def test_the_same_graph_without_facts(self):
        for seed in range(8):
            dice = random.Random(seed)
            graph = (example(), straight(), rooted())[seed % 3]
            ledger = Ledger(graph)
            for _ in range(40):
                present = ledger.graph()
                place = dice.choice(present.places())
                try:
                    ledger.edit(place, random_point(dice, present, place))
                    ledger.record(solve(ledger.graph()), place, 0)
                except OddsError:
                    continue
            again = replay(graph, ledger.edits())
            self.assertIsInstance(again, Ledger)
            self.assertEqual(again.graph().procedures, ledger.graph().procedures)
            self.assertEqual((again.standing(), again.edits()), ([], ledger.edits()))
            self.assertEqual(error_of(again.fact, 0), ("BadValue", "number"))
            self.assertEqual(again.undo(), "edit" if ledger.edits() else None)

    def test_bounds(self):
        pair = ((0, 2), ("reject",))
        ledger = replay(example(), [pair] * 100)
        self.assertEqual(ledger.edits(), [pair] * 100)
        self.assertEqual(error_of(ledger.edit, *pair), ("TooLarge", "moves"))
        self.assertEqual(error_of(replay, example(), [pair] * 101), ("BadValue", "edits"))
        self.assertEqual(replay(example(), []).edits(), [])

    def test_wrong_edits(self):
        pair = ((0, 2), ("reject",))
        for value in (None, True, 0, "", (), (pair,), {}, [None], [pair, 0], [list(pair)], [pair, pair + (0,)], [pair[:1]], [()], "ab"):
            self.assertEqual(error_of(replay, example(), value), ("BadValue", "edits"), value)
        # The form of all pairs is checked before the first edit is done.
        self.assertEqual(error_of(replay, example(), [((9, 9), ("stop",)), 0]), ("BadValue", "edits"))

    def test_errors_of_single_edits(self):
        pair = ((0, 2), ("reject",))
        self.assertEqual(error_of(replay, example(), [pair, ((0, 4), ("stop",))]), ("BadValue", "place"))
        self.assertEqual(error_of(replay, example(), [pair, ((1, 1), ("exit", 1))]), ("BadGraph", (1, 1), "exit"))
        self.assertEqual(error_of(replay, example(), [((0, 0), ("choose", (0,))), ((0, 4), ("stop",))]), ("NotTold", ("choices",)))

    def test_the_list_is_not_kept(self):
        edits = [((0, 2), ("reject",))]
        ledger = replay(example(), edits)
        edits.append(((0, 2), ("stop",)))
        self.assertEqual(ledger.edits(), edits[:1])

    def test_large_graphs(self):
        graph = tail_calls()
        edits = [(place, graph.point_at(place)) for place in graph.places()] * 2
        self.assertEqual(replay(graph, edits).graph().procedures, graph.procedures)


if __name__ == "__main__":
    unittest.main()
