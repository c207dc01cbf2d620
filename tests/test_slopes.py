"""Points 56 and 57, and oddscall/slopes.py."""

import unittest
from fractions import Fraction

from oddscall.equations import live_terms, terms_of, unknowns
from oddscall.fields import is_element
from oddscall.graphs import Graph
from oddscall.parts import why_not
from oddscall.slopes import right_side, slope
from tests.helpers import ODD_VALUES, error_of
from tests.samples import all_kinds, random_chain, walk
from tests.told import (
    Root, random_recursion, random_values, root, root_of_a_root, rooted, straight, three_calls, value_at, with_inner_loop)

ZERO = ((0, 1), (0, 1))


def element(x, y=0):
    """Return an element of two fractions."""
    return Root(0, x, y).element()


def every_kind():
    """Return a told chain with a point of each kind that chains have, and its values from 1 on as prime numbers."""
    first = (1, (
        ("draw", (((1, 2), 1), ((1, 3), 2), ((1, 6), 1))), ("call", 1, (2, 3)), ("reward", (1, 1), 3), ("exit", 0), ("reject",),
        ("stop",)))
    second = (2, (("draw", (((1, 2), 1), ((1, 2), 2))), ("exit", 1), ("stop",)))
    graph = Graph(procedures=(first, second))
    primes = iter([2, 3, 5, 7, 11, 13, 17, 19, 23, 29, 31, 37, 41, 43, 47, 53, 59, 61, 67, 71, 73, 79, 83, 89, 97, 101, 103, 107, 109, 113])
    values = tuple([tuple([tuple([element(next(primes)) for _ in range(exits + 2)]) for _ in points]) for exits, points in graph.procedures])
    return (graph, values)


class RightSideTest(unittest.TestCase):
    def test_each_kind_of_point(self):
        graph, values = every_kind()
        found = {unknown: right_side(graph, unknown, 0, values) for unknown in unknowns(graph)}
        value = {unknown: Fraction(*value_at(values, unknown)[0]) for unknown in unknowns(graph)}
        half, third, sixth = Fraction(1, 2), Fraction(1, 3), Fraction(1, 6)
        for way in range(3):
            drawn = half * value[0, 1, way] + third * value[0, 2, way] + sixth * value[0, 1, way]
            self.assertEqual(found[0, 0, way], element(drawn))
            called = value[1, 0, 0] * value[0, 2, way] + value[1, 0, 1] * value[0, 3, way]
            called += {0: 0, 1: value[1, 0, 2], 2: value[1, 0, 3]}[way]
            self.assertEqual(found[0, 1, way], element(called))
            self.assertEqual(found[0, 2, way], element(value[0, 3, way]))
            for index, end in ((3, 0), (4, 1), (5, 2)):
                self.assertEqual(found[0, index, way], element(1 if way == end else 0))
        self.assertEqual([found[1, 1, way] for way in range(4)], [ZERO, element(1), ZERO, ZERO])
        self.assertEqual([found[1, 2, way] for way in range(4)], [ZERO, ZERO, ZERO, element(1)])

    def test_terms_that_are_not_live_count(self):
        # The second procedure never finishes with the exit 0, so one of the two terms of the call is not live.
        graph, values = every_kind()
        live = dict(live_terms(graph))
        self.assertEqual(len(live[0, 1, 0]), 1)
        self.assertEqual(len(terms_of(graph, (0, 1, 0))), 2)
        total = sum([Fraction(*value_at(values, first)[0]) * Fraction(*value_at(values, second)[0])
                     for first, second in (((1, 0, 0), (0, 2, 0)), ((1, 0, 1), (0, 3, 0)))])
        self.assertEqual(right_side(graph, (0, 1, 0), 0, values), element(total))

    def test_one_unknown_twice(self):
        graph = Graph(procedures=((1, (("draw", (((1, 2), 1), ((1, 2), 2))), ("call", 0, (0,)), ("exit", 0))),))
        value = element(Fraction(2, 3), Fraction(1, 5))
        values = (((value,) + (ZERO,) * 2, (ZERO,) * 3, (ZERO,) * 3),)
        self.assertEqual(right_side(graph, (0, 1, 0), 7, values), (Root(7, Fraction(2, 3), Fraction(1, 5)) * Root(7, Fraction(2, 3), Fraction(1, 5))).element())

    def test_any_values_in_any_field(self):
        graphs = [walk(), straight(), rooted(), with_inner_loop()] + [random_chain(seed) for seed in range(10)]
        for seed, graph in enumerate(graphs):
            for field in (0, 2, 60):
                values = random_values(graph, field, seed)
                for unknown in unknowns(graph):
                    total = Root(field, 0)
                    for chance, factors in terms_of(graph, unknown):
                        product = Root(field, Fraction(*chance))
                        for factor in factors:
                            product = product * root(field, value_at(values, factor))
                        total = total + product
                    found = right_side(graph, unknown, field, values)
                    self.assertEqual(found, total.element())
                    self.assertTrue(is_element(field, found))


class SlopeTest(unittest.TestCase):
    def test_each_kind_of_point(self):
        graph, values = every_kind()
        value = {unknown: value_at(values, unknown) for unknown in unknowns(graph)}
        self.assertEqual(slope(graph, (0, 0, 0), (0, 1, 0), 0, values), element(Fraction(2, 3)))
        self.assertEqual(slope(graph, (0, 0, 0), (0, 2, 0), 0, values), element(Fraction(1, 3)))
        self.assertEqual(slope(graph, (0, 0, 0), (0, 3, 0), 0, values), ZERO)
        self.assertEqual(slope(graph, (0, 2, 0), (0, 3, 0), 0, values), element(1))
        self.assertEqual(slope(graph, (0, 1, 0), (1, 0, 1), 0, values), value[0, 3, 0])
        self.assertEqual(slope(graph, (0, 1, 0), (0, 3, 0), 0, values), value[1, 0, 1])
        self.assertEqual(slope(graph, (0, 1, 2), (1, 0, 3), 0, values), element(1))
        self.assertEqual(slope(graph, (0, 3, 0), (0, 3, 0), 0, values), ZERO)

    def test_terms_that_are_not_live_do_not_count(self):
        graph, values = every_kind()
        self.assertEqual(slope(graph, (0, 1, 0), (1, 0, 0), 0, values), ZERO)
        self.assertEqual(slope(graph, (0, 1, 0), (0, 2, 0), 0, values), ZERO)
        # An unknown that is not positive has no live terms at all.
        self.assertEqual(slope(graph, (0, 0, 1), (0, 1, 1), 0, values), ZERO)

    def test_one_unknown_twice(self):
        graph = Graph(procedures=((1, (("draw", (((1, 2), 1), ((1, 2), 2))), ("call", 0, (0,)), ("exit", 0))),))
        value = element(Fraction(2, 3), Fraction(1, 5))
        values = (((value,) + (ZERO,) * 2, (ZERO,) * 3, (ZERO,) * 3),)
        self.assertEqual(slope(graph, (0, 1, 0), (0, 0, 0), 7, values), element(Fraction(4, 3), Fraction(2, 5)))

    def test_one_unknown_in_several_terms(self):
        points = (("call", 1, (1, 1)), ("exit", 0))
        graph = Graph(procedures=((1, points), (2, (("draw", (((1, 2), 1), ((1, 2), 2))), ("exit", 0), ("exit", 1)))))
        values = random_values(graph, 3, 1)
        total = root(3, value_at(values, (1, 0, 0))) + root(3, value_at(values, (1, 0, 1)))
        self.assertEqual(slope(graph, (0, 0, 0), (0, 1, 0), 3, values), total.element())

    def test_any_values_in_any_field(self):
        graphs = [walk(), straight(), rooted(), with_inner_loop()] + [random_recursion(seed) for seed in range(12)]
        for seed, graph in enumerate(graphs):
            if why_not(graph) is not None:
                continue
            live = dict(live_terms(graph))
            for field in (0, 2):
                values = random_values(graph, field, seed)
                for first in unknowns(graph):
                    wanted = {}
                    for chance, factors in live.get(first, []):
                        for at, factor in enumerate(factors):
                            part = Root(field, Fraction(*chance))
                            for other in factors[:at] + factors[at + 1:]:
                                part = part * root(field, value_at(values, other))
                            wanted[factor] = wanted.get(factor, Root(field, 0)) + part
                    for second in list(wanted) + unknowns(graph)[:5]:
                        found = slope(graph, first, second, field, values)
                        self.assertEqual(found, wanted.get(second, Root(field, 0)).element())


class WrongArgumentsTest(unittest.TestCase):
    def calls(self, graph):
        return [error_of(right_side, graph, None, None, None), error_of(slope, graph, None, None, None, None)]

    def test_graphs(self):
        for value in ODD_VALUES + (0, walk().procedures):
            self.assertEqual(self.calls(value), [("BadValue", "graph")] * 2, value)

    def test_graphs_that_are_not_told(self):
        self.assertEqual(self.calls(all_kinds()), [("NotTold", ("choices",))] * 2)
        self.assertEqual(self.calls(three_calls()), [("NotTold", ("part", 1))] * 2)

    def test_told_ones_raise_nothing(self):
        graph = root_of_a_root((7, 23), (10, 23))
        values = random_values(graph, 5, 0)
        self.assertIsNone(error_of(right_side, graph, (1, 0, 0), 5, values))
        self.assertIsNone(error_of(slope, graph, (1, 0, 0), (1, 0, 0), 5, values))


if __name__ == "__main__":
    unittest.main()
