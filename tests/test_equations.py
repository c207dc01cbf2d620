"""Points 43 to 46, 53 and 54, and oddscall/equations.py."""

import unittest
from fractions import Fraction

from oddscall.equations import live_terms, positives, terms_of, unknowns
from oddscall.graphs import Graph
from oddscall.masses import mass
from tests.helpers import ODD_VALUES, error_of, fraction
from tests.samples import HEADS, all_kinds, chain_of_kinds, greatest_chain, random_chain, walk

ONE = (1, 1)


def chains():
    """Return sample chains."""
    return [walk(), chain_of_kinds(), greatest_chain()] + [random_chain(seed) for seed in range(60)]


class UnknownsTest(unittest.TestCase):
    def test_places_with_their_ways_in_order(self):
        graph = Graph(procedures=((1, (("exit", 0), ("stop",))), (0, (("reject",),)), (3, (("exit", 2),))))
        self.assertEqual(unknowns(graph), [
            (0, 0, 0), (0, 0, 1), (0, 0, 2), (0, 1, 0), (0, 1, 1), (0, 1, 2), (1, 0, 0), (1, 0, 1),
            (2, 0, 0), (2, 0, 1), (2, 0, 2), (2, 0, 3), (2, 0, 4)])

    def test_all_of_them(self):
        for graph in chains():
            expected = [(*place, way) for place in graph.places() for way in graph.ways(place)]
            self.assertEqual(unknowns(graph), expected)
            self.assertEqual(unknowns(graph), sorted(expected))


class TermsTest(unittest.TestCase):
    def check(self, graph, expected):
        for unknown, terms in expected.items():
            self.assertEqual(terms_of(graph, unknown), terms, unknown)

    def test_ends(self):
        graph = Graph(procedures=((2, (("exit", 1), ("reject",), ("stop",))),))
        for index, way in ((0, 1), (1, 2), (2, 3)):
            for other in range(4):
                self.assertEqual(terms_of(graph, (0, index, other)), [(ONE, ())] if way == other else [])

    def test_draws(self):
        branches = (((1, 2), 2), ((1, 6), 1), ((1, 12), 2), ((1, 4), 0))
        graph = Graph(procedures=((0, (("stop",),)), (1, (("draw", branches), ("exit", 0), ("stop",)))))
        for way in range(3):
            self.check(graph, {(1, 0, way): [
                ((1, 2), ((1, 2, way),)), ((1, 6), ((1, 1, way),)), ((1, 12), ((1, 2, way),)), ((1, 4), ((1, 0, way),))]})

    def test_rewards(self):
        graph = Graph(procedures=((0, (("stop",),)), (1, (("exit", 0), ("reward", (7, 2), 2), ("stop",)))))
        for way in range(3):
            self.check(graph, {(1, 1, way): [(ONE, ((1, 2, way),))]})

    def test_calls(self):
        graph = Graph(procedures=((1, (("call", 1, (2, 0, 1)), ("exit", 0), ("stop",))), (3, (("exit", 2), ("call", 0, (0,)), ("call", 2, ()))),
                                  (0, (("reject",),))))
        self.check(graph, {
            (0, 0, 0): [(ONE, ((1, 0, 0), (0, 2, 0))), (ONE, ((1, 0, 1), (0, 0, 0))), (ONE, ((1, 0, 2), (0, 1, 0)))],
            (0, 0, 1): [(ONE, ((1, 0, 0), (0, 2, 1))), (ONE, ((1, 0, 1), (0, 0, 1))), (ONE, ((1, 0, 2), (0, 1, 1))),
                        (ONE, ((1, 0, 3),))],
            (0, 0, 2): [(ONE, ((1, 0, 0), (0, 2, 2))), (ONE, ((1, 0, 1), (0, 0, 2))), (ONE, ((1, 0, 2), (0, 1, 2))),
                        (ONE, ((1, 0, 4),))],
            (1, 1, 0): [(ONE, ((0, 0, 0), (1, 0, 0)))],
            (1, 1, 2): [(ONE, ((0, 0, 0), (1, 0, 2)))],
            (1, 1, 3): [(ONE, ((0, 0, 0), (1, 0, 3))), (ONE, ((0, 0, 1),))],
            (1, 1, 4): [(ONE, ((0, 0, 0), (1, 0, 4))), (ONE, ((0, 0, 2),))],
            (1, 2, 0): [], (1, 2, 1): [], (1, 2, 2): [],
            (1, 2, 3): [(ONE, ((2, 0, 0),))],
            (1, 2, 4): [(ONE, ((2, 0, 1),))],
        })

    def test_the_same_unknown_twice(self):
        graph = Graph(procedures=((1, (("call", 0, (0,)),)),))
        self.assertEqual(terms_of(graph, (0, 0, 0)), [(ONE, ((0, 0, 0), (0, 0, 0)))])

    def test_chances_satisfy_the_equations(self):
        # The chances are 1/2 for the exit of the walk from 0, 1/4 from 1, 1/2 from 2 and 1 from 3.
        values = {(0, 0, 0): Fraction(1, 2), (0, 1, 0): Fraction(1, 4), (0, 2, 0): Fraction(1, 2), (0, 3, 0): Fraction(1)}
        for unknown in unknowns(walk()):
            total = Fraction(0)
            for chance, factors in terms_of(walk(), unknown):
                product = fraction(chance)
                for factor in factors:
                    product *= values.get(factor, 0)
                total += product
            self.assertEqual(total, values.get(unknown, 0))


class PositivesTest(unittest.TestCase):
    def test_the_least_solution_of_the_rule(self):
        for graph in chains():
            found = set()
            while True:
                more = {unknown for unknown in unknowns(graph)
                        if any([all([factor in found for factor in factors]) for _, factors in terms_of(graph, unknown)])}
                if more == found:
                    break
                found = more
            self.assertEqual(positives(graph), sorted(found))

    def test_positive_unknowns_have_masses(self):
        for graph in chains()[3:]:
            positive = positives(graph)
            for unknown in unknowns(graph):
                reached = mass(graph, unknown[:2], unknown[2], 40) != (0, 1)
                # What is positive is so at some depth, which is at most 40 in graphs as small as these.
                self.assertEqual(reached, unknown in positive, unknown)

    def test_positive_only_through_a_procedure_that_calls_itself(self):
        self.assertEqual(positives(walk()), [(0, 0, 0), (0, 1, 0), (0, 2, 0), (0, 3, 0)])
        points = (("draw", (((1, 2), 1), ((1, 2), 2))), ("call", 0, (3, 4)), ("exit", 0), ("exit", 1), ("stop",))
        graph = Graph(procedures=((2, points),))
        # From 1 the exit 1 comes of a call that finished with 0; a stop comes only of one that finished with 1.
        self.assertEqual(positives(graph), [
            (0, 0, 0), (0, 0, 1), (0, 0, 3), (0, 1, 1), (0, 1, 3), (0, 2, 0), (0, 3, 1), (0, 4, 3)])

    def test_none_is_positive(self):
        for points in ((("call", 0, (0,)),), (("draw", (((1, 1), 0),)),), (("reward", (1, 1), 1), ("call", 0, (2,)), ("call", 0, (0,)))):
            graph = Graph(procedures=((1, points),))
            self.assertEqual(positives(graph), [])
            self.assertEqual(live_terms(graph), [])

    def test_a_call_that_cannot_finish(self):
        graph = Graph(procedures=((1, (("call", 1, (1,)), ("exit", 0))), (1, (("call", 1, (1,)), ("exit", 0)))))
        self.assertEqual(positives(graph), [(0, 1, 0), (1, 1, 0)])

    def test_a_long_way_against_the_order(self):
        points = (("reward", (1, 1), 15), ("exit", 0)) + tuple([("reward", (1, 1), index - 1) for index in range(2, 16)])
        graph = Graph(procedures=((1, (("call", 1, (1,)), ("exit", 0))), (1, points)))
        self.assertEqual(positives(graph), [(0, 0, 0), (0, 1, 0)] + [(1, index, 0) for index in range(16)])


class LiveTermsTest(unittest.TestCase):
    def test_the_walk(self):
        self.assertEqual(live_terms(walk()), [
            ((0, 0, 0), [((2, 3), ((0, 1, 0),)), ((1, 3), ((0, 3, 0),))]),
            ((0, 1, 0), [(ONE, ((0, 0, 0), (0, 2, 0)))]),
            ((0, 2, 0), [(ONE, ((0, 0, 0), (0, 3, 0)))]),
            ((0, 3, 0), [(ONE, ())]),
        ])

    def test_terms_that_are_not_live_are_left_out(self):
        graph = Graph(procedures=((1, (("draw", (((1, 3), 1), ((1, 3), 2), ((1, 3), 3))), ("stop",), ("exit", 0), ("call", 1, (2, 1)))),
                                  (2, (("exit", 1), ("exit", 0)))))
        live = dict(live_terms(graph))
        self.assertEqual(live[0, 0, 0], [((1, 3), ((0, 2, 0),))])
        self.assertEqual(live[0, 0, 2], [((1, 3), ((0, 1, 2),)), ((1, 3), ((0, 3, 2),))])
        self.assertEqual(live[0, 3, 2], [(ONE, ((1, 0, 1), (0, 1, 2)))])
        self.assertNotIn((0, 3, 0), live)

    def test_they_are_those_of_the_positive_unknowns(self):
        for graph in chains():
            positive = positives(graph)
            found = live_terms(graph)
            self.assertEqual([unknown for unknown, _ in found], positive)
            for unknown, terms in found:
                self.assertEqual(terms, [term for term in terms_of(graph, unknown)
                                         if all([factor in positive for factor in term[1]])])
                self.assertNotEqual(terms, [])


class WrongArgumentsTest(unittest.TestCase):
    def calls(self, graph):
        return [error_of(unknowns, graph), error_of(terms_of, graph, (0, 0, 0)), error_of(terms_of, graph, None),
                error_of(positives, graph), error_of(live_terms, graph)]

    def test_graphs(self):
        for value in ODD_VALUES + (0, walk().procedures):
            self.assertEqual(self.calls(value), [("BadValue", "graph")] * 5, value)

    def test_choices(self):
        for graph in (all_kinds(), Graph(procedures=((1, (HEADS,) + (("exit", 0),) * 3), (0, (("stop",), ("choose", (0,))))))):
            self.assertEqual(self.calls(graph), [("NotTold", ("choices",))] * 5)

    def test_unknowns(self):
        graph = Graph(procedures=((1, (("exit", 0), ("stop",))), (0, (("reject",),))))
        for value in ODD_VALUES + (0, (0, 0), (0, 0, 3), (0, 2, 0), (2, 0, 0), (1, 0, 2), (1, 1, 0), (-1, 0, 0), (0, -1, 0),
                                   (0, 0, -1), (0, 0, 0, 0), [0, 0, 0], (True, 0, 0), (False, 0, 0), (0, True, 0), (0, False, 0),
                                   (0, 0, True), (0, 0, False), (0, 0, None), (None, 0, 0), ((0, 0), 0), ((0, 0), 0, 0), "000"):
            self.assertEqual(error_of(terms_of, graph, value), ("BadValue", "unknown"), value)
        for value in unknowns(graph):
            self.assertIsNone(error_of(terms_of, graph, value))


class ReturnedListsTest(unittest.TestCase):
    def test_they_are_new_ones_with_the_lists_in_them(self):
        graph = chain_of_kinds()
        for call in (lambda: unknowns(graph), lambda: positives(graph), lambda: terms_of(graph, (0, 0, 0)),
                     lambda: live_terms(graph)):
            first, kept = call(), call()
            self.assertIsInstance(first, list)
            first.clear()
            self.assertEqual(call(), kept)
        found, kept = live_terms(graph), live_terms(graph)
        for pair in found:
            self.assertIsInstance(pair, tuple)
            self.assertIsInstance(pair[1], list)
            pair[1].clear()
        self.assertEqual(live_terms(graph), kept)
        for unknown, terms in kept:
            self.assertTrue(all([isinstance(term, tuple) and isinstance(term[1], tuple) for term in terms]))
            self.assertLessEqual(len(terms), len(terms_of(graph, unknown)))


if __name__ == "__main__":
    unittest.main()
