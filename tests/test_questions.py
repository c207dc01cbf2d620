"""Points 65 to 68, 71 and 72, and oddscall/questions.py."""

import unittest
from fractions import Fraction

from oddscall.chances import chance
from oddscall.graphs import Graph
from oddscall.masses import mass
from oddscall.numbers import compare_numbers, number_of
from oddscall.questions import chance_of_any, compare_chance, compare_chances, ends_surely, likeliest_way, rest_of
from oddscall.solving import solve
from tests.helpers import ODD_VALUES, error_of, fraction, rational
from tests.samples import all_kinds, random_chain, walk
from tests.told import critical, random_recursion, rooted, straight, three_calls, twice, with_inner_loop, with_solutions

ZERO = ("rational", (0, 1))
ONE = ("rational", (1, 1))


def told():
    """Return told chains whose chances lie in one field, with their solutions."""
    graphs = [walk(), straight(), rooted(), critical(), with_inner_loop()]
    graphs += [random_chain(seed) for seed in range(8)] + [random_recursion(seed) for seed in range(30)]
    return with_solutions(graphs)


def near(text, places):
    """Return the number of a decimal with so many places."""
    return ("rational", rational(Fraction(int(text), 10 ** places)))


class CompareTest(unittest.TestCase):
    def test_rationals(self):
        solution = solve(walk())
        for number, wanted in (((1, 2), 0), ((499, 1000), 1), ((501, 1000), -1), ((0, 1), 1), ((-1, 1), 1), ((1, 1), -1)):
            self.assertEqual(compare_chance(walk(), solution, (0, 0), 0, ("rational", number)), wanted)
        self.assertEqual(compare_chance(walk(), solution, (0, 0), 1, ZERO), 0)

    def test_roots(self):
        solution = solve(rooted())
        # x = 1 - sqrt(2) / 2, whose digits are 0.292893218813452475599155637895150960..
        self.assertEqual(compare_chance(rooted(), solution, (0, 0), 0, ("root", (1, -4, 2), 0)), 0)
        self.assertEqual(compare_chance(rooted(), solution, (0, 0), 0, ("root", (1, -4, 2), 1)), -1)
        self.assertEqual(compare_chance(rooted(), solution, (0, 0), 0, near("29289321881345247559915563789", 29)), 1)
        self.assertEqual(compare_chance(rooted(), solution, (0, 0), 0, near("29289321881345247559915563790", 29)), -1)
        # Numbers of other fields: sqrt(3) / 6 is 0.28867.. and sqrt(22) / 16 is 0.29315..
        self.assertEqual(compare_chance(rooted(), solution, (0, 0), 0, ("root", (-1, 0, 12), 1)), 1)
        self.assertEqual(compare_chance(rooted(), solution, (0, 0), 0, ("root", (-11, 0, 128), 1)), -1)
        self.assertEqual(compare_chance(rooted(), solution, (0, 0), 2, ("root", (-1, 0, 2), 1)), 0)

    def test_very_near_in_another_field(self):
        # The square roots of 1/4 * n / (n - 1) and 1/4 * n / (n + 1) are very near to 1/2.
        graph = Graph(procedures=((1, (("draw", (((1, 2), 1), ((1, 2), 2))), ("exit", 0), ("stop",))),))
        solution = solve(graph)
        many = 10 ** 28
        above = ("root", (-many // 4, 0, many - 1), 1)
        self.assertEqual(compare_chance(graph, solution, (0, 0), 0, above), -1)
        below = ("root", (-many // 4, 0, many + 1), 1)
        self.assertEqual(compare_chance(graph, solution, (0, 0), 0, below), 1)

    def test_with_its_own_chance(self):
        for graph, solution in told():
            for place in graph.places()[:5]:
                for way in graph.ways(place):
                    found = chance(graph, solution, place, way)
                    if all([abs(n) < 10 ** 30 for n in found[1]]):
                        self.assertEqual(compare_chance(graph, solution, place, way, found), 0)

    def test_chances_with_each_other(self):
        graph = rooted()
        solution = solve(graph)
        pairs = [((0, index), way) for index in range(5) for way in range(3)]
        for first in pairs:
            for second in pairs:
                wanted = compare_numbers(chance(graph, solution, *first), chance(graph, solution, *second))
                self.assertEqual(compare_chances(graph, solution, first, second), wanted)
        for graph, solution in told()[5:15]:
            pairs = [(place, way) for place in graph.places()[:4] for way in graph.ways(place)]
            for first in pairs[::2]:
                for second in pairs[::3]:
                    wanted = compare_numbers(chance(graph, solution, *first), chance(graph, solution, *second))
                    self.assertEqual(compare_chances(graph, solution, first, second), wanted)

    def test_places_of_several_procedures(self):
        graph = Graph(procedures=(twice(0, (1, 4), (1, 2)), (0, (("draw", (((1, 3), 1), ((2, 3), 2))), ("reject",), ("stop",)))))
        solution = solve(graph)
        self.assertEqual(compare_chances(graph, solution, ((0, 0), 0), ((1, 0), 0)), -1)
        self.assertEqual(compare_chances(graph, solution, ((0, 0), 2), ((1, 0), 1)), 1)
        self.assertEqual(compare_chances(graph, solution, ((0, 3), 0), ((1, 2), 1)), 0)


class SomeWaysTest(unittest.TestCase):
    def test_none_one_and_all(self):
        for graph, solution in told():
            for place in graph.places()[:4]:
                ways = graph.ways(place)
                self.assertEqual(chance_of_any(graph, solution, place, ()), ZERO)
                for way in ways:
                    self.assertEqual(chance_of_any(graph, solution, place, (way,)), chance(graph, solution, place, way))
                every = chance_of_any(graph, solution, place, tuple(ways))
                self.assertLessEqual(compare_numbers(every, ONE), 0)
                self.assertIs(ends_surely(graph, solution, place), every == ONE)

    def test_sums(self):
        solution = solve(rooted())
        self.assertEqual(chance_of_any(rooted(), solution, (0, 0), (0, 2)), ONE)
        self.assertEqual(chance_of_any(rooted(), solution, (0, 0), (0, 1)), ("root", (1, -4, 2), 0))
        # x * x + x * s + s from the first call, with x = 1 - s and s = sqrt(2) / 2, is 1, too.
        self.assertEqual(chance_of_any(rooted(), solution, (0, 1), (0, 1, 2)), ONE)
        solution = solve(straight())
        parts = [fraction(chance(straight(), solution, (0, 0), way)[1]) for way in range(4)]
        self.assertEqual(chance_of_any(straight(), solution, (0, 0), (1, 2, 3)), ("rational", rational(sum(parts[1:]))))

    def test_ends_surely(self):
        solution = solve(walk())
        self.assertEqual([ends_surely(walk(), solution, (0, index)) for index in range(4)], [False, False, False, True])
        self.assertTrue(ends_surely(critical(), solve(critical()), (0, 0)))
        self.assertTrue(ends_surely(rooted(), solve(rooted()), (0, 2)))
        loop = Graph(procedures=((0, (("draw", (((1, 60), 1), ((59, 60), 0))), ("draw", (((1, 1), 1),)))),))
        self.assertFalse(ends_surely(loop, solve(loop), (0, 0)))
        sure = Graph(procedures=((0, (("draw", (((1, 60), 1), ((59, 60), 0))), ("reject",))),))
        self.assertTrue(ends_surely(sure, solve(sure), (0, 0)))

    def test_likeliest_ways(self):
        self.assertEqual(likeliest_way(walk(), solve(walk()), (0, 0)), 0)
        self.assertEqual(likeliest_way(rooted(), solve(rooted()), (0, 0)), 2)
        branches = (((1, 4), 1), ((3, 8), 2), ((3, 8), 3))
        graph = Graph(procedures=((2, (("draw", branches), ("exit", 0), ("exit", 1), ("reject",), ("draw", (((1, 1), 4),)))),))
        solution = solve(graph)
        # The exit 1 and being rejected have the same chance.
        self.assertEqual([likeliest_way(graph, solution, (0, index)) for index in range(5)], [1, 0, 1, 2, None])
        for graph, solution in told():
            for place in graph.places()[:4]:
                numbers = [chance(graph, solution, place, way) for way in graph.ways(place)]
                best = None
                for way, number in enumerate(numbers):
                    if compare_numbers(number, ZERO if best is None else numbers[best]) > 0:
                        best = way
                self.assertEqual(likeliest_way(graph, solution, place), best)


class RestTest(unittest.TestCase):
    def test_the_walk(self):
        self.assertEqual(rest_of(walk(), solve(walk()), (0, 0), 0, 7), ("rational", (5, 54)))
        self.assertEqual(rest_of(walk(), solve(walk()), (0, 0), 0, 0), ("rational", (1, 2)))
        self.assertEqual(rest_of(walk(), solve(walk()), (0, 3), 0, 0), ZERO)
        self.assertEqual(rest_of(walk(), solve(walk()), (0, 0), 1, 40), ZERO)

    def test_chance_less_mass(self):
        for graph, solution in told()[:20]:
            for place in graph.places()[:3]:
                for way in graph.ways(place):
                    before = None
                    for depth in (0, 1, 2, 7, 40):
                        found = rest_of(graph, solution, place, way, depth)
                        self.assertGreaterEqual(compare_numbers(found, ZERO), 0)
                        if before is not None:
                            self.assertLessEqual(compare_numbers(found, before), 0)
                        before = found
                        n, d = mass(graph, place, way, depth)
                        field, values, _ = solution
                        x, y = values[place[0]][place[1]][way]
                        wanted = number_of(field, (rational(Fraction(*x) - Fraction(n, d)), y))
                        self.assertEqual(found, wanted)


class WrongArgumentsTest(unittest.TestCase):
    def calls(self, graph, solution, place=None, way=None):
        return [error_of(compare_chance, graph, solution, place, way, None), error_of(chance_of_any, graph, solution, place, None),
                error_of(ends_surely, graph, solution, place), error_of(likeliest_way, graph, solution, place),
                error_of(rest_of, graph, solution, place, way, None)]

    def test_graphs(self):
        for value in ODD_VALUES + (0, walk().procedures):
            self.assertEqual(self.calls(value, None), [("BadValue", "graph")] * 5)
            self.assertEqual(error_of(compare_chances, value, None, None, None), ("BadValue", "graph"))

    def test_graphs_that_are_not_told(self):
        self.assertEqual(self.calls(all_kinds(), None), [("NotTold", ("choices",))] * 5)
        self.assertEqual(self.calls(three_calls(), None), [("NotTold", ("part", 1))] * 5)
        self.assertEqual(error_of(compare_chances, three_calls(), None, None, None), ("NotTold", ("part", 1)))

    def test_solutions_and_places(self):
        for value in ODD_VALUES + (solve(rooted()),):
            self.assertEqual(self.calls(walk(), value), [("BadValue", "solution")] * 5)
            self.assertEqual(error_of(compare_chances, walk(), value, None, None), ("BadValue", "solution"))
        for value in ODD_VALUES + (0, (0, 4), (1, 0), (0, -1), (0, True), [0, 0], (0, 0, 0)):
            self.assertEqual(self.calls(walk(), solve(walk()), value), [("BadValue", "place")] * 5, value)

    def test_ways(self):
        solution = solve(walk())
        for value in ODD_VALUES + (-1, 3, (0,), "0"):
            self.assertEqual(error_of(compare_chance, walk(), solution, (0, 0), value, None), ("BadValue", "way"), value)
            self.assertEqual(error_of(rest_of, walk(), solution, (0, 0), value, None), ("BadValue", "way"), value)
        for value in ODD_VALUES + (0, (3,), (-1,), (0, 3), (1, 0), (0, 0), (0, 1, 1), (2, 1), (True,), (0, True), [0, 1], (0, None), ((0,),), "01"):
            if value != ():
                self.assertEqual(error_of(chance_of_any, walk(), solution, (0, 0), value), ("BadValue", "ways"), value)
        for value in ((), (0,), (2,), (0, 1), (0, 2), (0, 1, 2)):
            self.assertIsNone(error_of(chance_of_any, walk(), solution, (0, 0), value))

    def test_numbers(self):
        solution = solve(walk())
        long = 10 ** 30
        wrong = (0, (1, 2), ("rational", (2, 4)), ("rational", (1, 0)), ("rational", [1, 2]), ["rational", (1, 2)], ("root", (-4, 0, 1), 0),
                 ("root", (-2, 0, 1), 2), ("root", (-2, 0, 1)), ("rational", (long, 1)), ("rational", (-long, 1)), ("rational", (1, long)),
                 ("root", (-2, 0, long + 1), 0), ("root", (-long, 0, 3), 1), ("root", (-1, long, 1), 0), ("root", (-1, -long, 1), 0))
        for value in ODD_VALUES + wrong:
            self.assertEqual(error_of(compare_chance, walk(), solution, (0, 0), 0, value), ("BadValue", "number"), value)
        digits = long - 1
        for value in (("rational", (digits, 1)), ("rational", (-digits, 1)), ("rational", (1, digits)), ("root", (-2, 0, digits), 0),
                      ("root", (-1, digits, 1), 0), ("root", (-digits, -digits, 1), 1)):
            self.assertIsNone(error_of(compare_chance, walk(), solution, (0, 0), 0, value), value)

    def test_first_and_second(self):
        solution = solve(walk())
        right = ((0, 0), 0)
        for value in ODD_VALUES + (0, (0, 0), (0, 0, 0), ((0, 0),), ((0, 0), 3), ((0, 0), -1), ((0, 0), True), ((0, 0), None), ((0, 4), 0),
                                   ((1, 0), 0), [(0, 0), 0], ((0, 0), 0, 0), ([0, 0], 0), (None, 0)):
            self.assertEqual(error_of(compare_chances, walk(), solution, value, None), ("BadValue", "first"), value)
            self.assertEqual(error_of(compare_chances, walk(), solution, right, value), ("BadValue", "second"), value)

    def test_depths(self):
        for value in ODD_VALUES + (-1, 41, (0,), "0"):
            self.assertEqual(error_of(rest_of, walk(), solve(walk()), (0, 0), 0, value), ("BadValue", "depth"), value)


if __name__ == "__main__":
    unittest.main()
