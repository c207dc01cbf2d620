"""Points 52, 55, 59 to 61 and 63, and oddscall/solving.py."""

import unittest
from fractions import Fraction

from oddscall.errors import TooLarge
from oddscall.equations import positives, unknowns
from oddscall.fields import is_field
from oddscall.graphs import Graph
from oddscall.judging import accepts
from oddscall.masses import mass, masses
from oddscall.parts import parts, why_not
from oddscall.solving import solve
from tests.helpers import ODD_VALUES, error_of, fraction
from tests.samples import all_kinds, greatest_chain, random_chain, walk
from tests.told import (
    Root, approximate, call_in_a_loop, call_out_of_a_loop, critical, looped_before_the_call, random_recursion, root_of_a_root, rooted, sharp, straight,
    tail_calls, three_calls, twice, two_roots, value_at, with_inner_loop)

ZERO = ((0, 1), (0, 1))


def solved(graph):
    """Return the solution of a told chain after a check that it is accepted, or None if it is too large."""
    try:
        solution = solve(graph)
    except TooLarge as error:
        assert error.what == "field"
        return None
    assert accepts(graph, solution) is True
    return solution


def random_told():
    """Return random told chains."""
    graphs = [random_chain(seed) for seed in range(100)] + [random_recursion(seed) for seed in range(500)]
    return [graph for graph in graphs if why_not(graph) is None]


class RationalTest(unittest.TestCase):
    def test_without_curved_parts(self):
        field, values, rows = solved(straight())
        self.assertEqual((field, rows), (0, ()))
        # The third procedure is rejected with a chance r = 1/3 + 2/3 * r, and the second ends with each exit 1/4 and 1/2.
        self.assertEqual(values[2][0], (((1, 1), (0, 1)), ZERO))
        self.assertEqual(values[1][0][:2], (((1, 4), (0, 1)), ((1, 2), (0, 1))))
        self.assertEqual(values[1][0][2:], (ZERO, ((1, 4), (0, 1))))
        self.assertEqual(values[0][2], (((1, 1), (0, 1)), ZERO, ZERO, ZERO))

    def test_all_chances_are_rational_without_curved_parts(self):
        for graph in random_told():
            if not any([curved for _, curved, _ in parts(graph)]):
                field, values, rows = solved(graph)
                self.assertEqual((field, rows), (0, ()))

    def test_rational_roots(self):
        field, values, rows = solved(walk())
        self.assertEqual(field, 0)
        self.assertEqual([points[0][0] for points in values[0]], [(1, 2), (1, 4), (1, 2), (1, 1)])
        self.assertEqual(solved(critical())[1][0][0][0], ((1, 1), (0, 1)))
        self.assertEqual(solved(call_in_a_loop())[0], 0)

    def test_the_lesser_root_is_the_chance(self):
        for ends, calls in (((1, 3), (2, 3)), ((1, 5), (4, 5)), ((4, 5), (1, 5)), ((1, 2), (1, 2)), ((1, 60), (59, 60))):
            field, values, _ = solved(rooted(ends, calls))
            self.assertEqual(field, 0)
            self.assertEqual(fraction(values[0][0][0][0]), min(Fraction(1), Fraction(*ends) / Fraction(*calls)))

    def test_what_is_not_positive_is_0(self):
        for graph in (walk(), straight(), rooted(), Graph(procedures=((1, (("call", 0, (0,)),)),))):
            field, values, _ = solved(graph)
            positive = positives(graph)
            for unknown in unknowns(graph):
                self.assertEqual(value_at(values, unknown) == ZERO, unknown not in positive)


class RootTest(unittest.TestCase):
    def check_field(self, field, square_free):
        self.assertTrue(is_field(field))
        root = Fraction(field, square_free)
        self.assertIn((int(root ** 0.5)) ** 2, (root,), field)

    def test_one_root(self):
        field, values, rows = solved(rooted())
        self.check_field(field, 2)
        x = values[0][0][0]
        self.assertEqual(x[0], (1, 1))
        self.assertEqual(Fraction(*x[1]) ** 2 * field, Fraction(1, 2))
        self.assertLess(x[1][0], 0)
        field, values, rows = solved(rooted((1, 3), (1, 2)))
        self.check_field(field, 3)

    def test_several_curved_parts_in_one_field(self):
        # The roots are those of 1/2, 1/8, 2/9 and 8/9, which are all multiples of the square root of 2.
        kinds = (((1, 4), (1, 2)), ((1, 2), (7, 16)), ((7, 12), (1, 3)), ((1, 6), (1, 6)))
        for first in kinds:
            for second in kinds:
                field, values, rows = solved(two_roots(first, second))
                self.check_field(field, 2)
                self.assertEqual(len(rows), 2)
                for procedure, ((n, d), (k, e)) in enumerate((first, second)):
                    inside = 1 - 4 * Fraction(n, d) * Fraction(k, e)
                    x = values[procedure][0][0]
                    self.assertEqual(Fraction(*x[0]), Fraction(e, 2 * k))
                    self.assertEqual(Fraction(*x[1]) ** 2 * field, inside / (2 * Fraction(k, e)) ** 2)

    def test_rational_roots_beside_others(self):
        for pair in (((1, 4), (1, 2)), ((1, 3), (2, 3))), (((1, 3), (2, 3)), ((1, 4), (1, 2))):
            field, values, rows = solved(two_roots(*pair))
            self.check_field(field, 2)
            self.assertEqual(len(rows), 2)

    def test_a_root_of_what_is_not_rational(self):
        # Here t = 10/23 + 7/23 * x * t * t, and 1 - 280/529 * x is the square of 7/23 + 10/23 * sqrt(2).
        for pair in (((7, 23), (10, 23)), ((10, 23), (7, 23)), ((5, 23), (14, 23)), ((14, 23), (5, 23)), ((35, 46), (4, 23))):
            graph = root_of_a_root(*pair)
            field, values, rows = solved(graph)
            self.check_field(field, 2)
            x, t = Root(field, *[Fraction(*r) for r in values[0][0][0]]), Root(field, *[Fraction(*r) for r in values[1][0][0]])
            right = Root(field, Fraction(*pair[1])) + Root(field, Fraction(*pair[0])) * x * t * t
            self.assertEqual(right.element(), t.element())

    def test_a_looped_group_with_a_call(self):
        field, values, rows = solved(call_out_of_a_loop())
        self.assertEqual([item[0] for item in values[0][0]], [(1, 3), (2, 3), (0, 1), (0, 1)])
        self.assertEqual(len(rows), 1)

    def test_looped_groups(self):
        for graph in (with_inner_loop(), looped_before_the_call()):
            field, values, rows = solved(graph)
            self.assertEqual(len(rows), 1)
            self.assertNotEqual(field, 0)

    def test_parts_that_are_not_curved_above_a_root(self):
        points = (
            ("draw", (((1, 3), 1), ((1, 3), 2), ((1, 3), 0))), ("call", 0, (2,)), ("draw", (((1, 2), 0), ((1, 4), 3), ((1, 4), 4))),
            ("exit", 0), ("reject",))
        graph = Graph(procedures=(twice(0, (1, 4), (1, 2)), (1, points)))
        field, values, rows = solved(graph)
        self.check_field(field, 2)
        x, t = Root(field, *[Fraction(*r) for r in values[0][0][0]]), Root(field, *[Fraction(*r) for r in values[1][0][0]])
        u = Root(field, *[Fraction(*r) for r in values[1][2][0]])
        third = Root(field, Fraction(1, 3))
        self.assertEqual((third * (x * u + u + t)).element(), t.element())
        self.assertEqual((Root(field, Fraction(1, 2)) * t + Root(field, Fraction(1, 4))).element(), u.element())


class TooLargeTest(unittest.TestCase):
    def test_two_roots(self):
        for pair in ((((1, 4), (1, 2)), ((1, 3), (1, 2))), (((1, 3), (1, 2)), ((1, 4), (1, 2))), (((1, 6), (1, 6)), ((1, 4), (1, 3)))):
            self.assertEqual(error_of(solve, two_roots(*pair)), ("TooLarge", "field"))

    def test_the_root_of_what_is_not_rational(self):
        for pair in (((9, 23), (10, 23)), ((1, 2), (1, 2)), ((1, 4), (1, 4))):
            self.assertEqual(error_of(solve, root_of_a_root(*pair)), ("TooLarge", "field"))

    def test_procedures_that_are_never_called_count(self):
        graph = two_roots(((1, 4), (1, 2)), ((1, 3), (1, 2)))
        self.assertEqual(graph.reached((0, 0)), [(0, index) for index in range(5)])
        self.assertEqual(error_of(solve, graph), ("TooLarge", "field"))

    def test_whether_it_is_told_comes_first(self):
        third = tuple([("call", 2, point[2]) if point[0] == "call" else point for point in three_calls().procedures[0][1]])
        graph = Graph(procedures=two_roots(((1, 4), (1, 2)), ((1, 3), (1, 2))).procedures + ((1, third),))
        self.assertEqual(error_of(solve, graph), ("NotTold", ("part", 9)))


class ChancesTest(unittest.TestCase):
    def graphs(self):
        named = [
            walk(), straight(), rooted(), critical(), with_inner_loop(), looped_before_the_call(), call_in_a_loop(), call_out_of_a_loop(),
            root_of_a_root((7, 23), (10, 23)), two_roots(((1, 4), (1, 2)), ((1, 6), (1, 6)))]
        return named + random_told()[::3]

    def test_no_mass_is_greater_and_no_sum_is_above_1(self):
        for graph in self.graphs():
            solution = solved(graph)
            if solution is None:
                continue
            field, values, _ = solution
            for place in graph.places():
                row = values[place[0]][place[1]]
                numbers = [sharp(field, element) for element in row]
                self.assertLessEqual(sum(numbers), 1 + Fraction(1, 10 ** 50))
                for depth in (0, 1, 2, 5, 13, 40):
                    found, _ = masses(graph, place, depth)
                    for way, number in enumerate(numbers):
                        self.assertLessEqual(fraction(found[way]), number + Fraction(1, 10 ** 50))

    def test_masses_come_near(self):
        # In these chains runs do not go on for long, so that the masses at the depth 40 are nearly the chances.
        for graph in (straight(), with_inner_loop(), rooted((1, 2), (1, 12))):
            field, values, _ = solved(graph)
            for number, index, way in unknowns(graph):
                rest = sharp(field, values[number][index][way]) - fraction(mass(graph, (number, index), way, 40))
                self.assertLess(rest, Fraction(1, 100))

    def test_against_another_method(self):
        compared = 0
        for graph in random_told() + self.graphs():
            solution = solved(graph)
            if solution is None:
                continue
            field, values, rows = solution
            found = approximate(graph)
            # Near a double root floats have only half of their digits.
            close = 1e-9 if field or not rows else 2e-3
            for unknown in unknowns(graph):
                self.assertAlmostEqual(float(sharp(field, value_at(values, unknown))), found.get(unknown, 0.0), delta=close)
                compared += 1
        self.assertGreater(compared, 5000)

    def test_each_call_returns_an_equal_solution(self):
        for graph in self.graphs()[:9]:
            self.assertEqual(solve(graph), solve(Graph(procedures=graph.procedures)))


class LargeTest(unittest.TestCase):
    def test_calls_of_calls(self):
        # Each procedure calls the next one as often as it can, so that the numbers grow very long.
        sizes = (7, 7, 7, 7, 6, 6)
        procedures = []
        for number, size in enumerate(sizes[:-1]):
            calls = [("call", number + 1, (index + 1,)) for index in range(size - 1)]
            procedures.append((1, tuple(calls + [("exit", 0)])))
        draws = (("draw", (((1, 59), 1), ((3, 59), 4), ((50, 59), 0), ((5, 59), 5))), ("draw", (((7, 53), 0), ((46, 53), 4))),
                 ("stop",), ("stop",), ("exit", 0), ("reject",))
        graph = Graph(procedures=tuple(procedures + [(1, draws)]))
        solution = solved(graph)
        first, last = solution[1][0][0][0], solution[1][5][0][0]
        self.assertEqual(fraction(first[0]), fraction(last[0]) ** (6 * 6 * 6 * 6 * 5))

    def test_many_unknowns_in_one_part(self):
        graph = tail_calls()
        self.assertEqual(max([len(part) for part, _, _ in parts(graph)]), 66)
        field, values, rows = solved(graph)
        self.assertEqual((field, rows), (0, ()))
        self.assertEqual(error_of(solve, greatest_chain()), ("NotTold", ("part", 6)))


class WrongArgumentsTest(unittest.TestCase):
    def test_graphs(self):
        for value in ODD_VALUES + (0, walk().procedures):
            self.assertEqual(error_of(solve, value), ("BadValue", "graph"), value)

    def test_graphs_that_are_not_told(self):
        self.assertEqual(error_of(solve, all_kinds()), ("NotTold", ("choices",)))
        self.assertEqual(error_of(solve, three_calls()), ("NotTold", ("part", 1)))


if __name__ == "__main__":
    unittest.main()
