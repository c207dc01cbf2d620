"""Points 36 to 40, and oddscall/masses.py."""

import unittest
from fractions import Fraction

from oddscall.graphs import Graph
from oddscall.masses import lengths, mass, masses
from tests.helpers import ODD_VALUES, error_of, fraction
from tests.samples import (
    HEADS, all_kinds, all_runs, chain_of_kinds, ended_chances, greatest_chain, kind_of_way, random_chain, walk)

ZERO = (0, 1)


def chains():
    """Return sample chains."""
    return [walk(), chain_of_kinds()] + [random_chain(seed) for seed in range(40)]


def nested():
    """Return a chain whose calls finish at both exits, are rejected, stop, and never end."""
    first = (2, (
        ("draw", (((1, 6), 1), ((1, 3), 2), ((1, 2), 3))),
        ("call", 1, (4, 5, 0)),
        ("call", 2, (5,)),
        ("call", 3, ()),
        ("exit", 0),
        ("exit", 1),
    ))
    second = (3, (("draw", (((1, 4), 1), ((1, 4), 2), ((1, 4), 3), ((1, 4), 4))), ("exit", 2), ("exit", 1), ("reject",), ("stop",)))
    third = (1, (("reward", (1, 1), 0), ("exit", 0)))
    fourth = (0, (("draw", (((2, 3), 1), ((1, 3), 2))), ("reject",), ("stop",)))
    return Graph(procedures=(first, second, third, fourth))


class AgainstConfigurationsTest(unittest.TestCase):
    def check(self, graph, depths):
        for place in graph.places():
            most = max(depths)
            ended, running = ended_chances(graph, place, most)
            for way in graph.ways(place):
                expected = [ended.get((length, way), Fraction(0)) for length in range(most + 1)]
                self.assertEqual([fraction(chance) for chance in lengths(graph, place, way, most)], expected, (place, way))
                for depth in depths:
                    self.assertEqual(fraction(mass(graph, place, way, depth)), sum(expected[:depth + 1]))
            for depth in depths:
                found, still = masses(graph, place, depth)
                self.assertEqual(found, tuple([mass(graph, place, way, depth) for way in graph.ways(place)]))
                self.assertEqual(fraction(still), running[depth])

    def test_sample_chains(self):
        self.check(walk(), range(19))
        self.check(nested(), range(19))
        self.check(chain_of_kinds(), range(11))

    def test_random_chains(self):
        for graph in chains():
            self.check(graph, (0, 1, 2, 3, 5, 9))

    def test_the_greatest_chain(self):
        self.check(greatest_chain(), (0, 1, 4, 6))


class AgainstTapesTest(unittest.TestCase):
    def check(self, graph, depth):
        for place in graph.places():
            told = all_runs(graph, place, depth)
            for way in graph.ways(place):
                kind = kind_of_way(graph, place, way)
                expected = [Fraction(0)] * (depth + 1)
                for run in told:
                    if run[:2] == kind and run[2] <= depth:
                        expected[run[2]] += fraction(run[4])
                self.assertEqual([fraction(chance) for chance in lengths(graph, place, way, depth)], expected, (place, way))
                self.assertEqual(fraction(mass(graph, place, way, depth)), sum(expected))

    def test_sample_chains(self):
        self.check(walk(), 17)
        self.check(nested(), 15)
        self.check(chain_of_kinds(), 8)

    def test_random_chains(self):
        for graph in chains():
            self.check(graph, 6)


class SumsTest(unittest.TestCase):
    def test_masses_and_the_running_mass_have_the_sum_1(self):
        for graph in chains() + [nested(), greatest_chain()]:
            for place in graph.places():
                for depth in (0, 1, 2, 7, 20):
                    found, still = masses(graph, place, depth)
                    self.assertIsInstance(found, tuple)
                    self.assertEqual(len(found), len(graph.ways(place)))
                    self.assertEqual(sum([fraction(one) for one in found]) + fraction(still), 1)

    def test_masses_do_not_fall_and_the_running_mass_does_not_rise(self):
        for graph in chains()[:12] + [nested()]:
            for place in graph.places():
                before, running = None, None
                for depth in range(0, 41, 4):
                    found, still = masses(graph, place, depth)
                    now = [fraction(one) for one in found]
                    if before is not None:
                        self.assertTrue(all([old <= new for old, new in zip(before, now)]))
                        self.assertLessEqual(fraction(still), running)
                    before, running = now, fraction(still)

    def test_a_mass_is_the_sum_of_the_lengths(self):
        for graph in chains()[:12] + [nested(), greatest_chain()]:
            for place in graph.places():
                for way in graph.ways(place):
                    row = lengths(graph, place, way, 13)
                    self.assertIsInstance(row, list)
                    self.assertEqual(len(row), 14)
                    total = Fraction(0)
                    for depth, chance in enumerate(row):
                        total += fraction(chance)
                        if depth in (0, 3, 8, 13):
                            self.assertEqual(fraction(mass(graph, place, way, depth)), total)


class CallsTest(unittest.TestCase):
    def test_ends_count_at_depth_0(self):
        graph = Graph(procedures=((2, (("exit", 1), ("reject",), ("stop",))),))
        for index, way in ((0, 1), (1, 2), (2, 3)):
            for other in range(4):
                self.assertEqual(mass(graph, (0, index), other, 0), (1, 1) if other == way else ZERO)
                self.assertEqual(lengths(graph, (0, index), other, 2), [(1, 1) if other == way else ZERO, ZERO, ZERO])

    def test_a_call_whose_procedure_finishes(self):
        graph = Graph(procedures=((1, (("call", 1, (1, 2)), ("exit", 0), ("stop",))), (2, (("exit", 0), ("exit", 1)))))
        self.assertEqual(lengths(graph, (0, 0), 0, 4), [ZERO, ZERO, (1, 1), ZERO, ZERO])
        self.assertEqual(lengths(graph, (0, 0), 2, 4), [ZERO] * 5)

    def test_a_call_whose_procedure_rejects_or_stops(self):
        # The called procedure has 3 exits, the calling one has 1: their ways have different numbers.
        for word, way in (("reject", 1), ("stop", 2)):
            graph = Graph(procedures=((1, (("call", 1, (1, 1, 1)), ("exit", 0))), (3, (("reward", (1, 1), 1), (word,)))))
            for other in range(3):
                expected = [ZERO, ZERO, (1, 1) if other == way else ZERO, ZERO]
                self.assertEqual(lengths(graph, (0, 0), other, 3), expected)
            self.assertEqual(masses(graph, (0, 0), 1), ((ZERO, ZERO, ZERO), (1, 1)))
            graph = Graph(procedures=((3, (("call", 1, ()), ("exit", 0))), (0, ((word,),))))
            self.assertEqual(lengths(graph, (0, 0), way + 2, 2), [ZERO, (1, 1), ZERO])

    def test_a_call_whose_procedure_never_ends(self):
        for point in (("draw", (((1, 1), 0),)), ("reward", (0, 1), 0), ("call", 1, (0,))):
            graph = Graph(procedures=((1, (("call", 1, (1,)), ("exit", 0))), (1, (point, ("exit", 0)))))
            self.assertEqual(masses(graph, (0, 0), 40), ((ZERO, ZERO, ZERO), (1, 1)))
            self.assertEqual(lengths(graph, (0, 0), 0, 40), [ZERO] * 41)

    def test_masses_for_depth_40(self):
        # From 0 on, heads are tossed until tails come up.
        toss = ("draw", (((2, 3), 0), ((1, 3), 1)))
        graph = Graph(procedures=((1, (toss, ("exit", 0))),))
        self.assertEqual(fraction(mass(graph, (0, 0), 0, 40)), 1 - Fraction(2, 3) ** 40)
        self.assertEqual([fraction(chance) for chance in lengths(graph, (0, 0), 0, 40)],
                         [Fraction(0)] + [Fraction(2, 3) ** k / 3 for k in range(40)])
        found, running = masses(graph, (0, 0), 40)
        self.assertEqual(fraction(running), Fraction(2, 3) ** 40)
        self.assertEqual(found[1:], (ZERO, ZERO))

    def test_two_branches_to_the_same_point(self):
        graph = Graph(procedures=((1, (("draw", (((1, 2), 1), ((1, 3), 1), ((1, 6), 2))), ("exit", 0), ("stop",))),))
        self.assertEqual(masses(graph, (0, 0), 1), (((5, 6), ZERO, (1, 6)), ZERO))

    def test_draws_with_60_as_denominators(self):
        toss = ("draw", (((1, 60), 1), ((59, 60), 0)))
        graph = Graph(procedures=((1, (toss, ("exit", 0))),))
        self.assertEqual(fraction(masses(graph, (0, 0), 40)[1]), Fraction(59, 60) ** 40)


class ExtremesTest(unittest.TestCase):
    """Each of these calls has to return."""

    def whole(self, graph, places):
        for place in places:
            self.assertEqual(sum([fraction(one) for one in masses(graph, place, 0)[0]]),
                             1 if graph.point_at(place)[0] in ("exit", "reject", "stop") else 0)
            found, running = masses(graph, place, 40)
            self.assertEqual(sum([fraction(one) for one in found]) + fraction(running), 1)
            for way in graph.ways(place):
                self.assertEqual(mass(graph, place, way, 40), found[way])
                row = lengths(graph, place, way, 40)
                self.assertEqual(len(row), 41)
                self.assertEqual(sum([fraction(chance) for chance in row]), fraction(found[way]))

    def test_a_procedure_that_calls_itself_twice(self):
        self.whole(walk(), walk().places())
        # Trees with n tails have n - 1 heads and twice as many calls and returns: 1 + 6 * (n - 1) steps.
        trees = (1, 1, 2, 5, 14, 42, 132)
        expected = [Fraction(0)] * 41
        for many, number in enumerate(trees):
            expected[1 + 6 * many] = number * Fraction(2, 3) ** many * Fraction(1, 3) ** (many + 1)
        self.assertEqual([fraction(chance) for chance in lengths(walk(), (0, 0), 0, 40)], expected)

    def test_a_graph_of_the_greatest_size(self):
        self.whole(greatest_chain(), greatest_chain().places()[::3])

    def test_calls_everywhere(self):
        def row(size, number):
            calls = [("call", (number + index) % 6, ((index + 1) % size, 0, size - 1)) for index in range(1, size - 1)]
            return (3, (("draw", (((1, 59), 1), ((28, 59), 2), ((30, 59), size - 1))), *calls, ("exit", number % 3)))
        graph = Graph(procedures=tuple([row(size, number) for number, size in enumerate((7, 7, 7, 7, 6, 6))]))
        self.whole(graph, graph.places()[::5])

    def test_procedures_that_only_call(self):
        graph = Graph(procedures=((3, (("call", 1, (0, 1, 2)),) * 16), (3, (("call", 0, (3, 4, 5)),) * 16),
                                  (3, (("call", 2, (0, 0, 0)),) * 8)))
        self.whole(graph, [(0, 0), (1, 15), (2, 7)])


class WrongArgumentsTest(unittest.TestCase):
    def calls(self, graph, place, way, depth, way_is_wrong=False):
        """Return the errors of the three functions; masses has no way."""
        found = [error_of(mass, graph, place, way, depth), error_of(lengths, graph, place, way, depth)]
        if not way_is_wrong:
            found.append(error_of(masses, graph, place, depth))
        return found

    def wrong(self, graph, place, way, depth, name):
        for error in self.calls(graph, place, way, depth, way_is_wrong=name == "way"):
            self.assertEqual(error, ("BadValue", name), (place, way, depth))

    def test_graphs(self):
        for value in ODD_VALUES + (0, walk().procedures):
            self.wrong(value, (0, 0), 0, 0, "graph")

    def test_choices(self):
        for graph in (all_kinds(), Graph(procedures=((1, (("exit", 0),)), (0, (("choose", (0,)),))))):
            for error in self.calls(graph, (0, 0), 0, 3):
                self.assertEqual(error, ("NotTold", ("choices",)))
            for error in self.calls(graph, None, None, None):
                self.assertEqual(error, ("NotTold", ("choices",)))

    def test_places(self):
        for value in ODD_VALUES + (0, (0, 4), (1, 0), (-1, 0), (False, 0), (0, True), [0, 0], (0, 0, 0)):
            self.wrong(walk(), value, 0, 0, "place")

    def test_ways(self):
        for value in ODD_VALUES + (3, 4, -1, (0,), "0"):
            self.wrong(walk(), (0, 0), value, 0, "way")
        graph = Graph(procedures=((3, (("stop",),)), (0, (("stop",),))))
        self.wrong(graph, (0, 0), 5, 0, "way")
        self.wrong(graph, (1, 0), 2, 0, "way")
        self.assertEqual(mass(graph, (0, 0), 4, 0), (1, 1))
        self.assertEqual(mass(graph, (1, 0), 1, 0), (1, 1))

    def test_depths(self):
        for value in ODD_VALUES + (-1, 41, 42, 10 ** 20, (0,), "0"):
            self.wrong(walk(), (0, 0), 0, value, "depth")
        for value in (0, 1, 39, 40):
            self.assertEqual(self.calls(walk(), (0, 0), 0, value), [None] * 3)

    def test_the_first_wrong_argument(self):
        self.wrong(None, None, None, None, "graph")
        self.wrong(walk(), (0, 4), 3, 41, "place")
        self.wrong(walk(), (0, 0), 3, 41, "way")
        self.wrong(walk(), (0, 0), True, True, "way")


class ReturnedListsTest(unittest.TestCase):
    def test_they_are_new_ones(self):
        graph = Graph(procedures=((1, (HEADS, ("stop",), ("exit", 0), ("exit", 0))),))
        first = lengths(graph, (0, 0), 0, 5)
        kept = list(first)
        first.clear()
        second = lengths(graph, (0, 0), 0, 5)
        self.assertEqual(second, kept)
        second[1] = (7, 1)
        self.assertEqual(lengths(graph, (0, 0), 0, 5), kept)
        self.assertEqual(mass(graph, (0, 0), 0, 5), (1, 3))


if __name__ == "__main__":
    unittest.main()
