"""Points 88, 89, 91, 94 and 97, and oddscall/strategies.py."""

import random
import unittest
from fractions import Fraction
from itertools import product

from oddscall.graphs import Graph
from oddscall.masses import mass
from oddscall.strategies import avoiding, chain_of, greatest_mass, least_mass
from tests.helpers import ODD_VALUES, error_of, fraction, rational
from tests.samples import all_kinds, random_branches, walk

TOSS = ("draw", (((1, 2), 2), ((1, 2), 3)))


def game():
    """Return the graph of the document with a choice between waiting and tossing a coin."""
    return Graph(procedures=((2, (("choose", (0, 1)), TOSS, ("exit", 0), ("exit", 1))),))


def beside_a_call():
    """Return a graph whose second procedure has choices and no call, between two procedures with calls."""
    middle = (
        ("choose", (1, 2, 5)), ("draw", (((1, 3), 3), ((2, 3), 0))), ("reward", (1, 1), 4), ("exit", 0), ("choose", (6, 0)), ("reject",),
        ("stop",))
    return Graph(procedures=((1, (("choose", (1,)), ("call", 1, (0,)), ("call", 0, (1,)))), (1, middle), (0, (("call", 2, ()),))))


def random_game(seed):
    """Return a graph with one procedure, which draws, chooses, counts rewards and ends."""
    dice = random.Random(seed)
    size, exits = dice.randrange(1, 7), dice.randrange(3)
    points = []
    for _ in range(size):
        word = dice.choice(("draw", "draw", "choose", "choose", "reward", "exit", "reject", "stop"))
        if word == "exit" and exits == 0:
            word = "choose"
        points.append({
            "draw": ("draw", random_branches(dice, size)),
            "choose": ("choose", tuple([dice.randrange(size) for _ in range(dice.randrange(1, 4))])),
            "reward": ("reward", (1, 2), dice.randrange(size)),
            "exit": ("exit", dice.randrange(max(exits, 1))),
            "reject": ("reject",),
            "stop": ("stop",),
        }[word])
    return Graph(procedures=((exits, tuple(points)),))


def strategies_of(points):
    """Return the list of all positional strategies for the points."""
    return list(product(*[range(len(point[1])) for point in points if point[0] == "choose"]))


def hits(graph, index, way):
    """Return True if the point of the procedure 0 hits the target."""
    exits, points = graph.procedures[0]
    return {"exit": points[index][1:] == (way,), "reject": way == exits, "stop": way == exits + 1}.get(points[index][0], False)


def best_of_runs(graph, index, way, depth, best):
    """Return the greatest (least) sum of chances of hits within the depth, over all that can be taken at each step."""
    point = graph.procedures[0][1][index]
    if point[0] in ("exit", "reject", "stop") or depth == 0:
        return Fraction(hits(graph, index, way))
    if point[0] == "draw":
        return sum([Fraction(*chance) * best_of_runs(graph, target, way, depth - 1, best) for chance, target in point[1]], Fraction(0))
    if point[0] == "choose":
        return best([best_of_runs(graph, target, way, depth - 1, best) for target in sorted(set(point[1]))])
    return best_of_runs(graph, point[2], way, depth - 1, best)


class ChainTest(unittest.TestCase):
    def test_the_game(self):
        self.assertEqual(chain_of(game(), 0, (0,)).procedures, ((2, (("draw", (((1, 1), 0),)), TOSS, ("exit", 0), ("exit", 1))),))
        self.assertEqual(chain_of(game(), 0, (1,)).procedures, ((2, (("draw", (((1, 1), 1),)), TOSS, ("exit", 0), ("exit", 1))),))

    def test_each_choice(self):
        points = beside_a_call().procedures[1][1]
        for first, target in enumerate((1, 2, 5)):
            for second, other in enumerate((6, 0)):
                found = chain_of(beside_a_call(), 1, (first, second))
                self.assertIsInstance(found, Graph)
                self.assertTrue(found.is_chain())
                wanted = list(points)
                wanted[0] = ("draw", (((1, 1), target),))
                wanted[4] = ("draw", (((1, 1), other),))
                self.assertEqual(found.procedures, ((1, tuple(wanted)),))

    def test_without_choices(self):
        graph = Graph(procedures=((1, (("exit", 0), ("stop",))), (0, (("call", 0, (0,)),))))
        self.assertEqual(chain_of(graph, 0, ()).procedures, graph.procedures[:1])

    def test_strategies(self):
        wrong = ((), (0,), (0, 0, 0), (3, 0), (0, 2), (-1, 0), (0, -1), (True, 0), (0, False), [0, 0], (0, None), ("0", 0), ((0,), 0), "00")
        for value in ODD_VALUES + wrong:
            self.assertEqual(error_of(chain_of, beside_a_call(), 1, value), ("BadValue", "strategy"), value)
        for value in ((0,), (0, 0), None, []):
            self.assertEqual(error_of(chain_of, chain_of(game(), 0, (0,)), 0, value), ("BadValue", "strategy"), value)


class MassTest(unittest.TestCase):
    def test_the_game(self):
        self.assertEqual([greatest_mass(game(), (0, 0), 0, depth) for depth in range(4)], [(0, 1), (0, 1), (1, 2), (1, 2)])
        # Whoever stays at the choice for ever never reaches the target.
        self.assertEqual([least_mass(game(), (0, 0), 0, depth) for depth in (0, 1, 2, 40)], [(0, 1)] * 4)
        self.assertEqual([least_mass(game(), (0, 1), 0, depth) for depth in (0, 1, 40)], [(0, 1), (1, 2), (1, 2)])
        for depth in (0, 1, 40):
            for found in (greatest_mass, least_mass):
                self.assertEqual(found(game(), (0, 2), 0, depth), (1, 1))
                self.assertEqual(found(game(), (0, 3), 0, depth), (0, 1))
                self.assertEqual(found(game(), (0, 0), 2, depth), (0, 1))

    def test_each_way(self):
        graph = beside_a_call()
        self.assertEqual([greatest_mass(graph, (1, 0), way, 3) for way in range(3)], [(1, 3), (1, 1), (1, 1)])
        self.assertEqual([greatest_mass(graph, (1, 0), way, 4) for way in range(3)], [(5, 9), (1, 1), (1, 1)])
        self.assertEqual([greatest_mass(graph, (1, 0), way, 0) for way in range(3)], [(0, 1)] * 3)
        self.assertEqual([greatest_mass(graph, (1, index), 1, 0) for index in range(7)], [(0, 1)] * 5 + [(1, 1), (0, 1)])
        self.assertEqual([least_mass(graph, (1, index), 2, 0) for index in range(7)], [(0, 1)] * 6 + [(1, 1)])
        self.assertEqual([least_mass(graph, (1, 0), way, 40) for way in range(3)], [(0, 1)] * 3)

    def test_a_reward_and_a_choice_are_steps(self):
        graph = Graph(procedures=((1, (("reward", (1, 1), 1), ("choose", (2,)), ("exit", 0))),))
        for found in (greatest_mass, least_mass):
            self.assertEqual([found(graph, (0, 0), 0, depth) for depth in range(4)], [(0, 1), (0, 1), (1, 1), (1, 1)])

    def test_the_strategy_may_look_at_the_run(self):
        # With few steps left the quick way is the better one, with many the slow one, which no positional strategy does.
        points = (("choose", (1, 2)), ("draw", (((1, 4), 3), ((3, 4), 4))), ("draw", (((1, 2), 0), ((1, 2), 5))), ("exit", 0), ("stop",), ("reward", (1, 1), 3))
        graph = Graph(procedures=((1, points),))
        self.assertEqual([greatest_mass(graph, (0, 0), 0, depth) for depth in range(6)],
                         [(0, 1), (0, 1), (1, 4), (1, 2), (5, 8), (3, 4)])
        best = max([fraction(mass(chain_of(graph, 0, (item,)), (0, 0), 0, 4)) for item in range(2)])
        self.assertEqual(best, Fraction(1, 2))

    def test_against_all_runs(self):
        for seed in range(120):
            graph = random_game(seed)
            for index in range(len(graph.procedures[0][1])):
                for way in graph.ways((0, index)):
                    for depth in (0, 1, 2, 5):
                        most = best_of_runs(graph, index, way, depth, max)
                        least = best_of_runs(graph, index, way, depth, min)
                        self.assertEqual(greatest_mass(graph, (0, index), way, depth), rational(most))
                        self.assertEqual(least_mass(graph, (0, index), way, depth), rational(least))

    def test_between_them_is_every_positional_strategy(self):
        for seed in range(40):
            graph = random_game(seed)
            points = graph.procedures[0][1]
            for strategy in strategies_of(points)[:8]:
                chain = chain_of(graph, 0, strategy)
                for way in graph.ways((0, 0)):
                    before = (Fraction(0), Fraction(0))
                    for depth in (0, 1, 3, 9, 40):
                        low, high = least_mass(graph, (0, 0), way, depth), greatest_mass(graph, (0, 0), way, depth)
                        under = fraction(mass(chain, (0, 0), way, depth))
                        self.assertLessEqual(fraction(low), under)
                        self.assertLessEqual(under, fraction(high))
                        self.assertGreaterEqual(fraction(low), before[0])
                        self.assertGreaterEqual(fraction(high), before[1])
                        before = (fraction(low), fraction(high))

    def test_without_choices_both_are_the_mass(self):
        for seed in range(60):
            graph = random_game(seed)
            if graph.is_chain():
                for place in graph.places():
                    for way in graph.ways(place):
                        for depth in (0, 3, 40):
                            wanted = mass(graph, place, way, depth)
                            self.assertEqual(greatest_mass(graph, place, way, depth), wanted)
                            self.assertEqual(least_mass(graph, place, way, depth), wanted)

    def test_large_procedures(self):
        dice = random.Random(1)
        points = [("draw", random_branches(dice, 16)) if index % 2 else ("choose", tuple([dice.randrange(16) for _ in range(4)])) for index in range(15)]
        graph = Graph(procedures=((1, tuple(points + [("exit", 0)])),))
        self.assertLessEqual(fraction(least_mass(graph, (0, 0), 0, 40)), fraction(greatest_mass(graph, (0, 0), 0, 40)))


class AvoidingTest(unittest.TestCase):
    def test_the_game(self):
        self.assertEqual([avoiding(game(), 0, way) for way in range(4)], [[0, 3], [0, 2], [0, 1, 2, 3], [0, 1, 2, 3]])

    def test_ends(self):
        graph = Graph(procedures=((2, (("exit", 0), ("exit", 1), ("reject",), ("stop",))),))
        self.assertEqual([avoiding(graph, 0, way) for way in range(4)], [[1, 2, 3], [0, 2, 3], [0, 1, 3], [0, 1, 2]])

    def test_a_loop_of_choices(self):
        points = (("choose", (1, 3)), ("choose", (2, 3)), ("reward", (1, 1), 0), ("exit", 0))
        self.assertEqual(avoiding(Graph(procedures=((1, points),)), 0, 0), [0, 1, 2])
        points = (("choose", (1, 3)), ("choose", (2, 3)), ("draw", (((59, 60), 0), ((1, 60), 3))), ("exit", 0))
        self.assertEqual(avoiding(Graph(procedures=((1, points),)), 0, 0), [])

    def test_choices_between_avoiding_and_other_points(self):
        points = (("choose", (1, 2)), ("draw", (((1, 2), 3), ((1, 2), 4))), ("draw", (((1, 2), 4), ((1, 2), 5))), ("exit", 0), ("stop",),
                  ("draw", (((1, 1), 5),)), ("choose", (1, 3)))
        graph = Graph(procedures=((1, points),))
        self.assertEqual(avoiding(graph, 0, 0), [0, 2, 4, 5])
        self.assertEqual(avoiding(graph, 0, 2), [3, 5, 6])

    def test_none(self):
        graph = Graph(procedures=((1, (("choose", (1, 2)), ("reward", (1, 1), 2), ("exit", 0))),))
        self.assertEqual(avoiding(graph, 0, 0), [])
        self.assertEqual(avoiding(graph, 0, 1), [0, 1, 2])

    def test_procedures_without_exits(self):
        graph = Graph(procedures=((0, (("choose", (0, 1)), ("stop",), ("reject",))),))
        self.assertEqual(avoiding(graph, 0, 0), [0, 1])
        self.assertEqual(avoiding(graph, 0, 1), [0, 2])

    def test_other_procedures_have_no_influence(self):
        graph = beside_a_call()
        alone = Graph(procedures=graph.procedures[1:2])
        for way in range(3):
            self.assertEqual(avoiding(graph, 1, way), avoiding(alone, 0, way))
            for index in range(7):
                for depth in (0, 1, 6):
                    self.assertEqual(greatest_mass(graph, (1, index), way, depth), greatest_mass(alone, (0, index), way, depth))
                    self.assertEqual(least_mass(graph, (1, index), way, depth), least_mass(alone, (0, index), way, depth))

    def test_the_greatest_set(self):
        for seed in range(150):
            graph = random_game(seed)
            points = graph.procedures[0][1]
            for way in graph.ways((0, 0)):
                every = set()
                for chosen in product((False, True), repeat=len(points)):
                    inside = {index for index, taken in enumerate(chosen) if taken}
                    if all([self.can_stay(graph, index, way, inside) for index in inside]):
                        every |= inside
                self.assertEqual(avoiding(graph, 0, way), sorted(every))

    def can_stay(self, graph, index, way, inside):
        """Return True if the point may belong to a set of points that avoids the target."""
        point = graph.procedures[0][1][index]
        if hits(graph, index, way):
            return False
        if point[0] == "draw":
            return {target for _, target in point[1]} <= inside
        if point[0] == "choose":
            return len(set(point[1]) & inside) > 0
        return point[0] != "reward" or point[2] in inside

    def test_nothing_hits_where_it_can_be_avoided(self):
        for seed in range(60):
            graph = random_game(seed)
            for way in graph.ways((0, 0)):
                for index in avoiding(graph, 0, way):
                    self.assertEqual(least_mass(graph, (0, index), way, 40), (0, 1))

    def test_a_new_list(self):
        found = avoiding(game(), 0, 0)
        self.assertIsInstance(found, list)
        found.clear()
        self.assertEqual(avoiding(game(), 0, 0), [0, 3])


class WrongArgumentsTest(unittest.TestCase):
    def by_procedure(self, graph, procedure):
        return [error_of(chain_of, graph, procedure, None), error_of(avoiding, graph, procedure, None)]

    def by_place(self, graph, place, way=None):
        return [error_of(greatest_mass, graph, place, way, None), error_of(least_mass, graph, place, way, None)]

    def test_graphs(self):
        for value in ODD_VALUES + (0, walk().procedures):
            self.assertEqual(self.by_procedure(value, None) + self.by_place(value, None), [("BadValue", "graph")] * 4)

    def test_procedures(self):
        for value in ODD_VALUES + (-1, 3, (0,), "0"):
            self.assertEqual(self.by_procedure(beside_a_call(), value), [("BadValue", "procedure")] * 2, value)

    def test_places(self):
        for value in ODD_VALUES + (0, (0, 3), (3, 0), (0, -1), (1, True), [1, 0], (1, 0, 0)):
            self.assertEqual(self.by_place(beside_a_call(), value), [("BadValue", "place")] * 2, value)

    def test_calls(self):
        graph = beside_a_call()
        self.assertEqual(self.by_procedure(graph, 0), [("NotTold", ("call", 0, 1))] * 2)
        self.assertEqual(self.by_procedure(graph, 2), [("NotTold", ("call", 2, 0))] * 2)
        for place, reason in (((0, 0), ("call", 0, 1)), ((0, 2), ("call", 0, 1)), ((2, 0), ("call", 2, 0))):
            self.assertEqual(self.by_place(graph, place), [("NotTold", reason)] * 2)
        self.assertEqual(self.by_procedure(all_kinds(), 1), [("NotTold", ("call", 1, 0))] * 2)

    def test_ways(self):
        for value in ODD_VALUES + (-1, 3, (0,), "0"):
            self.assertEqual(error_of(avoiding, beside_a_call(), 1, value), ("BadValue", "way"), value)
            self.assertEqual(self.by_place(beside_a_call(), (1, 0), value), [("BadValue", "way")] * 2, value)

    def test_depths(self):
        for value in ODD_VALUES + (-1, 41, (0,), "0"):
            self.assertEqual(error_of(greatest_mass, game(), (0, 0), 0, value), ("BadValue", "depth"), value)
            self.assertEqual(error_of(least_mass, game(), (0, 0), 0, value), ("BadValue", "depth"), value)


if __name__ == "__main__":
    unittest.main()
