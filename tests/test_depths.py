"""Points 69 to 72, and oddscall/depths.py."""

import unittest
from fractions import Fraction

from oddscall.depths import first_depth, is_beyond
from oddscall.graphs import Graph
from oddscall.masses import mass
from oddscall.parts import why_not
from oddscall.questions import compare_chance
from oddscall.solving import solve
from tests.helpers import ODD_VALUES, error_of, fraction, rational
from tests.samples import all_kinds, chain_of_kinds, greatest_chain, random_chain, walk
from tests.told import rooted, straight, three_calls


class FirstDepthTest(unittest.TestCase):
    def test_the_walk(self):
        self.assertEqual(first_depth(walk(), (0, 0), 0, (2, 5)), 7)
        self.assertEqual(first_depth(walk(), (0, 0), 0, (0, 1)), 1)
        # The mass 1/3 stays the same from the depth 1 to the depth 6.
        self.assertEqual(mass(walk(), (0, 0), 0, 6), (1, 3))
        self.assertEqual(first_depth(walk(), (0, 0), 0, (1, 3)), 7)
        self.assertEqual(first_depth(walk(), (0, 0), 0, (333, 1000)), 1)
        self.assertIsNone(first_depth(walk(), (0, 0), 0, (1, 2)))
        self.assertIsNone(first_depth(walk(), (0, 0), 1, (0, 1)))

    def test_the_depth_0(self):
        self.assertEqual(first_depth(walk(), (0, 3), 0, (99, 100)), 0)
        self.assertIsNone(first_depth(walk(), (0, 3), 0, (1, 1)))
        self.assertEqual(first_depth(walk(), (0, 3), 0, (0, 1)), 0)

    def test_negative_rationals(self):
        for graph in (walk(), straight(), three_calls()):
            for place in graph.places():
                for way in graph.ways(place):
                    for number in ((-1, 1), (-1, 10 ** 29), (-7, 3)):
                        self.assertEqual(first_depth(graph, place, way, number), 0)
                        self.assertIs(is_beyond(graph, place, way, number, 0), True)

    def test_the_depth_40(self):
        # Three calls of a procedure that makes 11 steps are 39 steps, with the calls and the returns.
        inner = tuple([("reward", (1, 1), index + 1) for index in range(11)] + [("exit", 0)])
        for more, wanted in ((0, 39), (1, 40), (2, None)):
            outer = [("call", 1, (index + 1,)) for index in range(3)]
            outer += [("reward", (1, 1), 4 + index) for index in range(more)] + [("exit", 0)]
            graph = Graph(procedures=((1, tuple(outer)), (1, inner)))
            self.assertEqual(first_depth(graph, (0, 0), 0, (1, 2)), wanted)
            self.assertIs(is_beyond(graph, (0, 0), 0, (1, 2), 39), wanted == 39)
            self.assertIs(is_beyond(graph, (0, 0), 0, (1, 2), 40), wanted is not None)

    def test_against_masses(self):
        graphs = [walk(), chain_of_kinds(), straight(), rooted(), three_calls()] + [random_chain(seed) for seed in range(12)]
        for graph in graphs:
            for place in graph.places()[:4]:
                for way in graph.ways(place):
                    found = [fraction(mass(graph, place, way, depth)) for depth in range(41)]
                    # Every mass itself, a little less, and a little more.
                    for value in sorted({found[0], found[3], found[9], found[20], found[40]}):
                        for more in (Fraction(-1, 10 ** 6), Fraction(0), Fraction(1, 10 ** 6)):
                            number = rational(value + more)
                            if max(abs(number[0]), number[1]) >= 10 ** 30:
                                continue
                            wanted = next((depth for depth in range(41) if found[depth] > value + more), None)
                            self.assertEqual(first_depth(graph, place, way, number), wanted)
                            for depth in {0, 40, wanted or 0, max(0, (wanted or 0) - 1)}:
                                expected = wanted is not None and wanted <= depth
                                self.assertIs(is_beyond(graph, place, way, number, depth), expected)

    def test_a_depth_shows_that_the_chance_is_greater(self):
        for graph in [walk(), rooted(), straight()] + [random_chain(seed) for seed in range(8)]:
            self.assertIsNone(why_not(graph))
            solution = solve(graph)
            for place in graph.places()[:3]:
                for way in graph.ways(place):
                    for number in ((0, 1), (1, 10), (29, 100), (3, 10), (1, 2), (9, 10), (1, 1)):
                        if first_depth(graph, place, way, number) is not None:
                            self.assertEqual(compare_chance(graph, solution, place, way, ("rational", number)), 1)

    def test_large_graphs(self):
        for number in ((0, 1), (1, 3), (999, 1000)):
            first_depth(greatest_chain(), (0, 0), 0, number)
            is_beyond(greatest_chain(), (0, 0), 0, number, 40)


class WrongArgumentsTest(unittest.TestCase):
    def calls(self, graph, place=None, way=None, number=None):
        return [error_of(first_depth, graph, place, way, number), error_of(is_beyond, graph, place, way, number, None)]

    def test_graphs(self):
        for value in ODD_VALUES + (0, walk().procedures):
            self.assertEqual(self.calls(value), [("BadValue", "graph")] * 2)
        self.assertEqual(self.calls(all_kinds()), [("NotTold", ("choices",))] * 2)

    def test_the_graph_need_not_be_told(self):
        self.assertEqual(why_not(three_calls()), ("part", 1))
        self.assertEqual(first_depth(three_calls(), (0, 0), 0, (2, 5)), 1)
        self.assertIs(is_beyond(three_calls(), (0, 0), 0, (1, 2), 1), False)

    def test_places_and_ways(self):
        for value in ODD_VALUES + (0, (0, 4), (1, 0), (0, -1), (0, True), [0, 0]):
            self.assertEqual(self.calls(walk(), value), [("BadValue", "place")] * 2, value)
        for value in ODD_VALUES + (-1, 3, (0,), "0"):
            self.assertEqual(self.calls(walk(), (0, 0), value), [("BadValue", "way")] * 2, value)

    def test_rationals(self):
        long = 10 ** 30
        for value in ODD_VALUES + (0, 1, (1,), (2, 4), (1, 0), (1, -2), [1, 2], (1, 2, 3), (True, 1), (1, True), ("rational", (1, 2)), (None, 1),
                                   (long, 1), (-long, 1), (1, long), (long, long + 1), ((1, 2), 1), "12"):
            self.assertEqual(self.calls(walk(), (0, 0), 0, value), [("BadValue", "rational")] * 2, value)
        for value in ((long - 1, 1), (1 - long, 1), (1, long - 1), (0, 1)):
            self.assertIsNone(error_of(first_depth, walk(), (0, 0), 0, value))
            self.assertIsNone(error_of(is_beyond, walk(), (0, 0), 0, value, 0))

    def test_depths(self):
        for value in ODD_VALUES + (-1, 41, (0,), "0"):
            self.assertEqual(error_of(is_beyond, walk(), (0, 0), 0, (1, 2), value), ("BadValue", "depth"), value)
        for value in (0, 40):
            self.assertIsNone(error_of(is_beyond, walk(), (0, 0), 0, (1, 2), value))


if __name__ == "__main__":
    unittest.main()
