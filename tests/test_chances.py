"""Points 55, 59, 62, 63 and 64, and oddscall/chances.py."""

import unittest
from fractions import Fraction

from oddscall.chances import chance, chance_element
from oddscall.equations import unknowns
from oddscall.errors import TooLarge
from oddscall.graphs import Graph
from oddscall.judging import accepts
from oddscall.numbers import compare_numbers, is_number, number_of
from oddscall.parts import why_not
from oddscall.solving import solve
from tests.helpers import ODD_VALUES, error_of, rational
from tests.samples import all_kinds, random_chain, walk
from tests.told import random_recursion, rooted, straight, three_calls, twice, value_at, with_inner_loop

ZERO = ("rational", (0, 1))


def in_field(solution, factor):
    """Return the solution with its field multiplied by the square of an integer."""
    field, values, rows = solution

    def moved(item):
        y = Fraction(*item[1]) / factor
        return (item[0], (y.numerator, y.denominator))

    values = tuple([tuple([tuple([moved(item) for item in row]) for row in points]) for points in values])
    return (field * factor * factor, values, tuple([tuple([moved(item) for item in row]) for row in rows]))


class ChanceTest(unittest.TestCase):
    def test_rational_chances(self):
        solution = solve(walk())
        self.assertEqual([chance(walk(), solution, (0, index), 0) for index in range(4)],
                         [("rational", (1, 2)), ("rational", (1, 4)), ("rational", (1, 2)), ("rational", (1, 1))])
        for index in range(4):
            for way in (1, 2):
                self.assertEqual(chance(walk(), solution, (0, index), way), ZERO)

    def test_roots(self):
        # x = 1 - sqrt(2) / 2 is the lesser root of 1 - 4 * x + 2 * x * x.
        solution = solve(rooted())
        self.assertEqual(chance(rooted(), solution, (0, 0), 0), ("root", (1, -4, 2), 0))
        # From the first call it is x * x, and it stops with s = 1/4 + 1/2 * (s + x * s), so s = 1 / (2 - 2 * x), which is sqrt(2) / 2.
        self.assertEqual(chance(rooted(), solution, (0, 0), 2), ("root", (-1, 0, 2), 1))
        self.assertEqual(chance(rooted(), solution, (0, 0), 1), ZERO)
        self.assertEqual(chance(rooted(), solution, (0, 3), 0), ("rational", (1, 1)))
        self.assertEqual(chance(rooted(), solution, (0, 4), 2), ("rational", (1, 1)))
        self.assertEqual(chance(rooted(), solution, (0, 1), 0), ("root", (1, -12, 4), 0))

    def test_the_element(self):
        for graph in (walk(), rooted(), straight(), with_inner_loop()):
            solution = solve(graph)
            for number, index, way in unknowns(graph):
                field, element = chance_element(graph, solution, (number, index), way)
                self.assertEqual(field, solution[0])
                self.assertEqual(element, value_at(solution[1], (number, index, way)))
                self.assertEqual(chance(graph, solution, (number, index), way), number_of(field, element))

    def test_two_accepted_solutions_give_equal_numbers(self):
        graphs = [walk(), rooted(), with_inner_loop()] + [random_recursion(seed) for seed in range(20)]
        for graph in graphs + [random_chain(seed) for seed in range(4)]:
            if why_not(graph) is not None:
                continue
            try:
                solution = solve(graph)
            except TooLarge:
                continue
            others = [in_field(solution, 2), in_field(solution, 15)]
            if solution[0] == 0:
                others = [(field,) + solution[1:] for field in (2, 7)]
            for other in others:
                self.assertIs(accepts(graph, other), True)
                for number, index, way in unknowns(graph):
                    found = chance(graph, solution, (number, index), way)
                    self.assertTrue(is_number(found))
                    self.assertEqual(chance(graph, other, (number, index), way), found)

    def test_chances_of_a_procedure_alone(self):
        # A chance does not depend on what is not reached.
        graph = Graph(procedures=(twice(0, (1, 4), (1, 2)), (0, (("reject",),))))
        for way in range(3):
            self.assertEqual(chance(graph, solve(graph), (0, 0), way), chance(rooted(), solve(rooted()), (0, 0), way))

    def test_roots_lie_between_their_neighbours(self):
        solution = solve(rooted())
        for way, digits in ((0, 292893218), (2, 707106781)):
            for more, wanted in ((0, 1), (1, -1)):
                number = ("rational", rational(Fraction(digits + more, 10 ** 9)))
                self.assertEqual(compare_numbers(chance(rooted(), solution, (0, 0), way), number), wanted)


class WrongArgumentsTest(unittest.TestCase):
    def calls(self, *arguments):
        return [error_of(chance, *arguments), error_of(chance_element, *arguments)]

    def test_graphs(self):
        for value in ODD_VALUES + (0, walk().procedures):
            self.assertEqual(self.calls(value, None, None, None), [("BadValue", "graph")] * 2, value)

    def test_graphs_that_are_not_told(self):
        self.assertEqual(self.calls(all_kinds(), None, None, None), [("NotTold", ("choices",))] * 2)
        self.assertEqual(self.calls(three_calls(), None, None, None), [("NotTold", ("part", 1))] * 2)

    def test_solutions(self):
        field, values, rows = solve(rooted())
        for value in ODD_VALUES + (solve(walk()), (field, values, ()), (0, values, rows), [field, values, rows]):
            self.assertEqual(self.calls(rooted(), value, None, None), [("BadValue", "solution")] * 2, value)

    def test_places(self):
        solution = solve(rooted())
        for value in ODD_VALUES + (0, (0, 5), (1, 0), (-1, 0), (0, -1), (0, True), [0, 0], (0, 0, 0)):
            self.assertEqual(self.calls(rooted(), solution, value, None), [("BadValue", "place")] * 2, value)

    def test_ways(self):
        solution = solve(rooted())
        for value in ODD_VALUES + (-1, 3, (0,), "0"):
            self.assertEqual(self.calls(rooted(), solution, (0, 0), value), [("BadValue", "way")] * 2, value)
        self.assertEqual(self.calls(rooted(), solution, (0, 0), 2), [None] * 2)


if __name__ == "__main__":
    unittest.main()
