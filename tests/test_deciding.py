"""Points 90, 92 to 97, and oddscall/deciding.py."""

import random
import unittest
from fractions import Fraction

from oddscall.chances import chance
from oddscall.deciding import accepts_greatest, accepts_least, greatest, least
from oddscall.graphs import Graph
from oddscall.solving import solve
from oddscall.strategies import avoiding, chain_of, greatest_mass, least_mass
from tests.helpers import ODD_VALUES, error_of, fraction
from tests.samples import random_branches, walk
from tests.test_strategies import TOSS, beside_a_call, game, hits, random_game, strategies_of

BOTH = ((greatest, accepts_greatest, max), (least, accepts_least, min))


def single(points, exits=1):
    """Return the graph of one procedure."""
    return Graph(procedures=((exits, tuple(points)),))


def chances_under(graph, way):
    """Return the list of the chances of the way from all points, for each positional strategy."""
    found = []
    for strategy in strategies_of(graph.procedures[0][1]):
        chain = chain_of(graph, 0, strategy)
        solution = solve(chain)
        found.append([fraction(chance(chain, solution, place, way)[1]) for place in chain.places()])
    return found


def hitting_points(graph, strategy, way):
    """Return the set of the points from which the target is reached in the chain of the strategy."""
    chain = chain_of(graph, 0, strategy)
    return {place[1] for place in chain.places() if any([hits(chain, other[1], way) for other in chain.reached(place)])}


def literal(graph, way, evidence, best):
    """Return True if the evidence holds, by points 92 to 94 read word by word."""
    values, strategy = evidence
    points = graph.procedures[0][1]
    worth = [fraction(value) for value in values]
    taken = list(strategy)
    for index, point in enumerate(points):
        if point[0] == "draw":
            wanted = sum([fraction(one) * worth[target] for one, target in point[1]], Fraction(0))
        elif point[0] == "reward":
            wanted = worth[point[2]]
        elif point[0] == "choose":
            wanted = worth[point[1][taken.pop(0)]]
            if worth[index] != best([worth[target] for target in point[1]]):
                return False
        else:
            wanted = Fraction(hits(graph, index, way))
        if worth[index] != wanted:
            return False
    zeros = set(avoiding(graph, 0, way))
    if best is max:
        zeros = set(range(len(points))) - hitting_points(graph, strategy, way)
    return all([(value == 0) == (index in zeros) and value >= 0 for index, value in enumerate(worth)])


def waiting_game():
    """Return a procedure in which a run can stay for ever at two choices, and in a loop of two more."""
    return single((("choose", (0, 1)), ("choose", (1, 2, 3)), TOSS_ON, ("choose", (4, 2)), ("reward", (1, 1), 3), ("exit", 0), ("stop",)))


TOSS_ON = ("draw", (((1, 3), 5), ((2, 3), 6)))


class EvidenceTest(unittest.TestCase):
    def test_the_game(self):
        self.assertEqual(greatest(game(), 0, 0), (((1, 2), (1, 2), (1, 1), (0, 1)), (1,)))
        self.assertEqual(least(game(), 0, 0), (((0, 1), (1, 2), (1, 1), (0, 1)), (0,)))

    def test_loops_of_choices(self):
        third = (1, 3)
        self.assertEqual(greatest(waiting_game(), 0, 0)[0], (third, third, third, third, third, (1, 1), (0, 1)))
        self.assertEqual(least(waiting_game(), 0, 0)[0], ((0, 1), (0, 1), third, (0, 1), (0, 1), (1, 1), (0, 1)))
        self.assertEqual(greatest(waiting_game(), 0, 2)[0][:2], ((2, 3), (2, 3)))

    def test_the_value_1(self):
        # Whoever tosses again and again comes to the exit 0 surely, or else to the exit 1.
        graph = single((("draw", (((1, 2), 1), ((1, 2), 2))), ("exit", 0), ("choose", (0, 3)), ("exit", 1)), 2)
        self.assertEqual(greatest(graph, 0, 0), (((1, 1), (1, 1), (1, 1), (0, 1)), (0,)))
        self.assertEqual(least(graph, 0, 0), (((1, 2), (1, 1), (0, 1), (0, 1)), (1,)))
        self.assertEqual(greatest(graph, 0, 1)[0], ((1, 2), (0, 1), (1, 1), (1, 1)))
        self.assertEqual(least(graph, 0, 1), (((0, 1), (0, 1), (0, 1), (1, 1)), (0,)))

    def test_the_value_0(self):
        graph = single((("choose", (1, 2)), ("stop",), ("draw", (((1, 1), 0),)), ("exit", 0)))
        self.assertEqual(greatest(graph, 0, 0)[0], ((0, 1), (0, 1), (0, 1), (1, 1)))
        self.assertEqual(greatest(graph, 0, 1)[0], ((0, 1),) * 4)
        for find, accepts, _ in BOTH:
            self.assertIs(accepts(graph, 0, 0, find(graph, 0, 0)), True)
            self.assertEqual(find(graph, 0, 1)[0], ((0, 1),) * 4)

    def test_against_all_positional_strategies(self):
        for seed in range(150):
            graph = random_game(seed)
            for way in graph.ways((0, 0)):
                under = chances_under(graph, way)
                for find, accepts, best in BOTH:
                    values, strategy = find(graph, 0, way)
                    self.assertEqual([fraction(value) for value in values], [best(column) for column in zip(*under)])
                    self.assertIn(strategy, strategies_of(graph.procedures[0][1]))
                    at = strategies_of(graph.procedures[0][1]).index(strategy)
                    self.assertEqual([fraction(value) for value in values], under[at])
                    self.assertIs(accepts(graph, 0, way, (values, strategy)), True)
                    self.assertTrue(literal(graph, way, (values, strategy), best))

    def test_the_masses_come_near(self):
        for seed in range(40):
            graph = random_game(seed)
            for way in graph.ways((0, 0)):
                for index, value in enumerate(greatest(graph, 0, way)[0]):
                    self.assertLessEqual(fraction(greatest_mass(graph, (0, index), way, 40)), fraction(value))
                for index, value in enumerate(least(graph, 0, way)[0]):
                    self.assertLessEqual(fraction(least_mass(graph, (0, index), way, 40)), fraction(value))
        self.assertGreater(fraction(greatest_mass(waiting_game(), (0, 0), 0, 4)), Fraction(1, 3) - Fraction(1, 1000))

    def test_a_further_point_at_a_choice(self):
        dice = random.Random(3)
        for seed in range(60):
            graph = random_game(seed)
            points = list(graph.procedures[0][1])
            choices = [index for index, point in enumerate(points) if point[0] == "choose"]
            if choices == []:
                continue
            at = dice.choice(choices)
            points[at] = ("choose", points[at][1] + (dice.randrange(len(points)),))
            wider = single(points, graph.procedures[0][0])
            for way in graph.ways((0, 0)):
                for before, after in zip(greatest(graph, 0, way)[0], greatest(wider, 0, way)[0]):
                    self.assertLessEqual(fraction(before), fraction(after))
                for before, after in zip(least(graph, 0, way)[0], least(wider, 0, way)[0]):
                    self.assertGreaterEqual(fraction(before), fraction(after))

    def test_without_choices_both_are_the_chances(self):
        seen = 0
        for seed in range(200):
            graph = random_game(seed)
            if not graph.is_chain():
                continue
            solution = solve(graph)
            for way in graph.ways((0, 0)):
                wanted = tuple([chance(graph, solution, place, way)[1] for place in graph.places()])
                self.assertEqual([greatest(graph, 0, way), least(graph, 0, way)], [(wanted, ())] * 2)
                seen += 1
        self.assertGreater(seen, 30)

    def test_other_procedures_have_no_influence(self):
        graph = beside_a_call()
        alone = Graph(procedures=graph.procedures[1:2])
        for way in range(3):
            for find, accepts, _ in BOTH:
                self.assertEqual(find(graph, 1, way), find(alone, 0, way))
                self.assertIs(accepts(graph, 1, way, find(alone, 0, way)), True)

    def test_large_procedures(self):
        for seed in range(6):
            dice = random.Random(seed)
            points = [("draw", random_branches(dice, 16)) if index % 2 else ("choose", tuple([dice.randrange(16) for _ in range(4)]))
                      for index in range(14)]
            graph = single(points + [("exit", 0), ("stop",)])
            for find, accepts, best in BOTH:
                evidence = find(graph, 0, 0)
                self.assertIs(accepts(graph, 0, 0, evidence), True)
                self.assertTrue(literal(graph, 0, evidence, best))

    def test_each_call_returns_equal_evidence(self):
        for find, _, _ in BOTH:
            self.assertEqual(find(waiting_game(), 0, 0), find(waiting_game(), 0, 0))


class JudgeTest(unittest.TestCase):
    def test_a_further_strategy_is_accepted(self):
        graph = single((("choose", (1, 2, 1)), ("exit", 0), ("reward", (1, 1), 1), ("choose", (4, 0)), ("stop",)))
        ones = ((1, 1), (1, 1), (1, 1), (1, 1), (0, 1))
        for item in range(3):
            self.assertIs(accepts_greatest(graph, 0, 0, (ones, (item, 1))), True)
            self.assertIs(accepts_least(graph, 0, 0, (ones[:3] + ((0, 1), (0, 1)), (item, 0))), True)
        self.assertIs(accepts_greatest(graph, 0, 0, (ones, (0, 0))), False)
        self.assertIs(accepts_least(graph, 0, 0, (ones, (0, 1))), False)

    def test_values_that_are_not_balanced(self):
        # Each kind of point, with a value that nothing but its own balance forbids.
        graph = single((("exit", 0), ("exit", 1), ("draw", (((1, 2), 0), ((1, 2), 1))), ("reward", (1, 1), 2), ("choose", (2,)),
                        ("stop",), ("reject",)), 2)
        right = ((1, 1), (0, 1), (1, 2), (1, 2), (1, 2), (0, 1), (0, 1))
        for _, accepts, _ in BOTH:
            self.assertIs(accepts(graph, 0, 0, (right, (0,))), True)
        for wrong in (((1, 1), (0, 1), (1, 2), (1, 3), (1, 2)), ((1, 1), (0, 1), (1, 2), (1, 2), (2, 3)),
                      ((1, 2), (0, 1), (1, 4), (1, 4), (1, 4)), ((1, 1), (0, 1), (3, 4), (3, 4), (3, 4))):
            for _, accepts, _ in BOTH:
                self.assertIs(accepts(graph, 0, 0, (wrong + right[5:], (0,))), False, wrong)

    def test_a_choice_that_is_not_the_best(self):
        # All is balanced, and 0 stands where it should, but the other point of the choice is better.
        graph = single((("choose", (1, 2)), TOSS_ON, TOSS_UP, ("exit", 0), ("stop",), ("exit", 0), ("stop",)))
        low = ((1, 3), (1, 3), (1, 2), (1, 1), (0, 1), (1, 1), (0, 1))
        high = ((1, 2),) + low[1:]
        self.assertIs(accepts_greatest(graph, 0, 0, (low, (0,))), False)
        self.assertIs(accepts_greatest(graph, 0, 0, (high, (1,))), True)
        self.assertIs(accepts_least(graph, 0, 0, (low, (0,))), True)
        self.assertIs(accepts_least(graph, 0, 0, (high, (1,))), False)

    def test_values_above_0_where_nothing_is_hit(self):
        self.assertIs(accepts_greatest(game(), 0, 0, (((1, 1), (1, 2), (1, 1), (0, 1)), (0,))), False)
        self.assertIs(accepts_greatest(game(), 0, 0, (((1, 2), (1, 2), (1, 1), (0, 1)), (0,))), False)
        loop = single((("choose", (1, 2)), ("reward", (1, 1), 0), ("draw", (((1, 2), 3), ((1, 2), 4))), ("exit", 0), ("stop",)))
        self.assertIs(accepts_greatest(loop, 0, 0, (((1, 2), (1, 2), (1, 2), (1, 1), (0, 1)), (1,))), True)
        self.assertIs(accepts_greatest(loop, 0, 0, (((1, 2), (1, 2), (1, 2), (1, 1), (0, 1)), (0,))), False)
        self.assertIs(accepts_greatest(loop, 0, 0, (((2, 3), (2, 3), (1, 2), (1, 1), (0, 1)), (0,))), False)

    def test_negative_values(self):
        loop = single((("draw", (((1, 1), 0),)), ("exit", 0)))
        for value in ((-1, 1), (1, 1)):
            for _, accepts, _ in BOTH:
                self.assertIs(accepts(loop, 0, 0, ((value, (1, 1)), ())), False)
                self.assertIs(accepts(loop, 0, 0, (((0, 1), (1, 1)), ())), True)

    def test_values_above_0_at_avoiding_points(self):
        # The value of the choice is balanced and not above those of its points, but it can be avoided.
        graph = single((("choose", (0, 1)), ("draw", (((1, 2), 2), ((1, 2), 3))), ("exit", 0), ("stop",)))
        for value in ((1, 2), (1, 3), (-1, 1)):
            self.assertIs(accepts_least(graph, 0, 0, ((value, (1, 2), (1, 1), (0, 1)), (0,))), False, value)
        self.assertIs(accepts_least(graph, 0, 0, (((1, 2), (1, 2), (1, 1), (0, 1)), (1,))), False)
        self.assertIs(accepts_least(graph, 0, 0, (((0, 1), (1, 2), (1, 1), (0, 1)), (0,))), True)

    def test_evidence_for_the_one_is_none_for_the_other(self):
        self.assertIs(accepts_least(game(), 0, 0, greatest(game(), 0, 0)), False)
        self.assertIs(accepts_greatest(game(), 0, 0, least(game(), 0, 0)), False)

    def test_random_changes(self):
        dice = random.Random(8)
        kept = 0
        for seed in range(120):
            graph = random_game(seed)
            points = graph.procedures[0][1]
            for way in graph.ways((0, 0)):
                for find, accepts, best in BOTH:
                    values, strategy = find(graph, 0, way)
                    strategy = dice.choice(strategies_of(points))
                    if dice.random() < 0.4:
                        at = dice.randrange(len(points))
                        values = values[:at] + (dice.choice(((0, 1), (1, 1), (1, 2), (-1, 1), (2, 1))),) + values[at + 1:]
                    wanted = literal(graph, way, (values, strategy), best)
                    self.assertIs(accepts(graph, 0, way, (values, strategy)), wanted)
                    kept += wanted
        self.assertGreater(kept, 50)

    def test_values_that_are_no_evidence(self):
        values, strategy = greatest(game(), 0, 0)
        wrong = (
            None, True, 0, "", (), (values,), (values, strategy, ()), [values, strategy], (list(values), strategy), (values, list(strategy)),
            (values[:-1], strategy), (values + ((0, 1),), strategy), (values, ()), (values, (1, 1)), (values, (2,)), (values, (-1,)),
            (values, (True,)), (values, (None,)), (None, strategy), (values, None), (((2, 4),) + values[1:], strategy),
            (([1, 2],) + values[1:], strategy), ((None,) + values[1:], strategy), ((1,) + values[1:], strategy),
            (values[:2] + ((True, 1), (0, 1)), strategy), (values[:2] + ((1, True), (0, 1)), strategy), (values[:3] + ((0, 2),), strategy),
            (values[:3] + ((0, -1),), strategy), (values[:3] + (0,), strategy), ("abcd", strategy), (values, "1"), (strategy, values))
        for value in ODD_VALUES + wrong:
            for accepts in (accepts_greatest, accepts_least):
                self.assertIs(accepts(game(), 0, 0, value), False, value)


TOSS_UP = ("draw", (((1, 2), 5), ((1, 2), 6)))


class WrongArgumentsTest(unittest.TestCase):
    def errors(self, graph, procedure, way):
        found = [error_of(find, graph, procedure, way) for find in (greatest, least)]
        return found + [error_of(accepts, graph, procedure, way, None) for accepts in (accepts_greatest, accepts_least)]

    def test_graphs(self):
        for value in ODD_VALUES + (0, walk().procedures):
            self.assertEqual(self.errors(value, None, None), [("BadValue", "graph")] * 4)

    def test_procedures(self):
        for value in ODD_VALUES + (-1, 3, (0,), "0"):
            self.assertEqual(self.errors(beside_a_call(), value, None), [("BadValue", "procedure")] * 4, value)

    def test_calls(self):
        self.assertEqual(self.errors(beside_a_call(), 0, None), [("NotTold", ("call", 0, 1))] * 4)
        self.assertEqual(self.errors(beside_a_call(), 2, 9), [("NotTold", ("call", 2, 0))] * 4)

    def test_ways(self):
        for value in ODD_VALUES + (-1, 3, (0,)):
            self.assertEqual(self.errors(beside_a_call(), 1, value), [("BadValue", "way")] * 4, value)


if __name__ == "__main__":
    unittest.main()
