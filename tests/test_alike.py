"""Points 108 to 110, 115 and 116, and oddscall/alike.py."""

import random
import unittest
from fractions import Fraction
from itertools import product

from oddscall.alike import alike, alike_classes, first_difference, merged
from oddscall.chances import chance
from oddscall.errors import NotTold, TooLarge
from oddscall.graphs import Graph
from oddscall.masses import masses
from oddscall.rewards import expected
from oddscall.solving import solve
from tests.helpers import ODD_VALUES, error_of
from tests.samples import all_kinds, chain_of_kinds, greatest_chain, random_chain, walk

START = ("draw", (((1, 2), 1), ((1, 2), 2)))
ONE = ("draw", (((1, 3), 3), ((2, 3), 4)))
OTHER = ("draw", (((2, 3), 4), ((1, 3), 3)))


def single(points, exits=1):
    """Return the graph of one procedure."""
    return Graph(procedures=((exits, tuple(points)),))


def example():
    """Return the graph of the document."""
    return single((START, ONE, OTHER, ("exit", 0), ("stop",)))


def twins(seed):
    """Return a random chain in which many points are alike: each has a twin, and points name either of the two."""
    dice = random.Random(seed)
    plain = random_chain(seed, sizes=(4, 3), exits=(2, 1))
    procedures = []
    for exits, points in plain.procedures:
        many = len(points)
        rows = []
        for point in points + points:
            if point[0] == "draw":
                point = ("draw", tuple([(one, index + many * dice.randrange(2)) for one, index in point[1]]))
            elif point[0] == "call":
                point = ("call", point[1], tuple([index + many * dice.randrange(2) for index in point[2]]))
            elif point[0] == "reward":
                point = ("reward", point[1], point[2] + many * dice.randrange(2))
            rows.append(point)
        procedures.append((exits, tuple(rows)))
    return Graph(procedures=tuple(procedures))


def chains():
    """Return sample chains."""
    return [example(), walk(), chain_of_kinds()] + [random_chain(seed) for seed in range(30)] + [twins(seed) for seed in range(30)]


def partitions(many):
    """Return all partitions of so many points, as tuples of the number of the class of each point."""
    found = [(0,)]
    for _ in range(many - 1):
        found = [names + (name,) for names in found for name in range(max(names) + 2)]
    return found


def totals_of(draw, names):
    """Return the dict of the total chances of a draw for each class."""
    found = {}
    for chance, index in draw[1]:
        found[names[index]] = found.get(names[index], 0) + Fraction(*chance)
    return found


def is_likeness(points, names):
    """Return True if the points with the same numbers are related as point 108 says."""
    for one, first in zip(points, names):
        for other, second in zip(points, names):
            if first == second and not is_pair_of_a_likeness(one, other, names):
                return False
    return True


def is_pair_of_a_likeness(one, other, names):
    """Return True if two related points are of one of the kinds of point 108."""
    if one[0] != other[0]:
        return False
    if one[0] == "draw":
        return totals_of(one, names) == totals_of(other, names)
    if one[0] == "reward":
        return one[1] == other[1] and names[one[2]] == names[other[2]]
    if one[0] == "call":
        return one[1] == other[1] and [names[index] for index in one[2]] == [names[index] for index in other[2]]
    return one == other


class AlikeTest(unittest.TestCase):
    def test_the_example(self):
        self.assertEqual(alike_classes(example()), [[(0,), (1, 2), (3,), (4,)]])
        self.assertIs(alike(example(), (0, 1), (0, 2)), True)
        self.assertIs(alike(example(), (0, 0), (0, 1)), False)

    def test_points_of_each_kind(self):
        points = (
            ("exit", 0), ("exit", 0), ("exit", 1), ("reject",), ("reject",), ("stop",), ("stop",), ("reward", (1, 1), 0), ("reward", (1, 1), 1),
            ("reward", (1, 2), 0), ("reward", (1, 1), 2), ("call", 1, (0,)), ("call", 1, (1,)), ("call", 1, (2,)), ("call", 2, (0,)),
            ("draw", (((1, 1), 0),)))
        more = ((1, (("exit", 0),)), (1, (("exit", 0),)))
        graph = Graph(procedures=((2, points),) + more)
        wanted = [(0, 1), (2,), (3, 4), (5, 6), (7, 8), (9,), (10,), (11, 12), (13,), (14,), (15,)]
        self.assertEqual(alike_classes(graph), [wanted, [(0,)], [(0,)]])
        for one, other in product(range(16), repeat=2):
            together = any([one in members and other in members for members in wanted])
            self.assertIs(alike(graph, (0, one), (0, other)), together, (one, other))

    def test_calls_with_several_exits(self):
        points = (("call", 1, (4, 3)), ("call", 1, (3, 4)), ("call", 1, (4, 2)), ("exit", 0), ("stop",))
        graph = Graph(procedures=((1, points), (2, (("exit", 0),)), (0, (("stop",),))))
        self.assertEqual(alike_classes(graph)[0], [(0,), (1,), (2,), (3,), (4,)])
        graph = Graph(procedures=((1, (("call", 1, ()), ("call", 1, ()), ("call", 2, ()))), (0, (("stop",),)), (0, (("stop",),))))
        self.assertEqual(alike_classes(graph)[0], [(0, 1), (2,)])

    def test_branches_that_are_added_up(self):
        half = (1, 2)
        points = (
            ("draw", (((1, 2), 3), ((1, 2), 5))),
            ("draw", (((1, 6), 5), ((1, 4), 4), ((1, 4), 3), ((1, 3), 5))),
            ("draw", (((1, 3), 3), ((1, 3), 4), ((1, 3), 5))),
            ("exit", 0), ("exit", 0), ("stop",))
        self.assertEqual(alike_classes(single(points)), [[(0, 1), (2,), (3, 4), (5,)]])
        self.assertEqual(merged(single(points)).procedures[0][1][0], ("draw", ((half, 2), (half, 3))))

    def test_places_of_different_procedures(self):
        graph = Graph(procedures=((1, (("exit", 0), ("exit", 0))), (1, (("exit", 0), ("exit", 0)))))
        self.assertIs(alike(graph, (0, 0), (1, 0)), False)
        self.assertIs(alike(graph, (1, 1), (0, 1)), False)
        self.assertIs(alike(graph, (1, 1), (1, 0)), True)

    def test_what_differs_behind_a_long_way(self):
        rows = [("reward", (1, 1), index + 1) for index in range(6)] + [("exit", 0)]
        rows += [("reward", (1, 1), index + 8) for index in range(6)] + [("stop",)]
        graph = single(rows)
        self.assertEqual(alike_classes(graph), [[(index,) for index in range(14)]])
        self.assertIs(alike(graph, (0, 0), (0, 7)), False)
        rows[13] = ("exit", 0)
        self.assertEqual(alike_classes(single(rows)), [[(index, index + 7) for index in range(7)]])

    def test_loops_are_alike(self):
        graph = single((("draw", (((1, 1), 1),)), ("draw", (((1, 2), 0), ((1, 2), 2))), ("draw", (((1, 1), 2),)), ("reward", (0, 1), 3)))
        self.assertEqual(alike_classes(graph), [[(0, 1, 2), (3,)]])

    def test_the_greatest_likeness(self):
        for seed in range(60):
            graph = random_chain(seed, sizes=(6, 4), exits=(2, 1))
            for number, (_, points) in enumerate(graph.procedures):
                related = [names for names in partitions(len(points)) if is_likeness(points, names)]
                for one, other in product(range(len(points)), repeat=2):
                    wanted = any([names[one] == names[other] for names in related])
                    self.assertIs(alike(graph, (number, one), (number, other)), wanted)

    def test_classes_agree_with_pairs(self):
        for graph in chains():
            for number, classes in enumerate(alike_classes(graph)):
                self.assertEqual(sorted([index for members in classes for index in members]), list(range(len(graph.procedures[number][1]))))
                self.assertEqual([members[0] for members in classes], sorted([members[0] for members in classes]))
                for members in classes:
                    self.assertEqual(list(members), sorted(members))
                    self.assertTrue(all([alike(graph, (number, members[0]), (number, index)) for index in members]))
                firsts = [members[0] for members in classes]
                self.assertFalse(any([alike(graph, (number, one), (number, other)) for one in firsts for other in firsts if one != other]))

    def test_what_is_the_same_for_places_that_are_alike(self):
        seen = 0
        for graph in chains():
            for number, classes in enumerate(alike_classes(graph)):
                for members in classes:
                    for index in members[1:]:
                        for depth in (0, 1, 3, 8):
                            self.assertEqual(masses(graph, (number, members[0]), depth), masses(graph, (number, index), depth))
                        seen += 1
        self.assertGreater(seen, 100)


class MergedTest(unittest.TestCase):
    def test_the_example(self):
        points = (("draw", (((1, 1), 1),)), ("draw", (((1, 3), 2), ((2, 3), 3))), ("exit", 0), ("stop",))
        self.assertIsInstance(merged(example()), Graph)
        self.assertEqual(merged(example()).procedures, ((1, points),))

    def test_the_point_of_the_least_place(self):
        points = (("call", 1, (2, 3)), ("reward", (3, 4), 3), ("reward", (3, 4), 4), ("exit", 0), ("exit", 0), ("call", 0, (1,)))
        graph = Graph(procedures=((1, points), (2, (("exit", 1), ("exit", 1)))))
        wanted = (("call", 1, (1, 2)), ("reward", (3, 4), 2), ("exit", 0), ("call", 0, (1,)))
        self.assertEqual(merged(graph).procedures, ((1, wanted), (2, (("exit", 1),))))

    def test_branches_in_the_order_of_the_classes(self):
        points = (("draw", (((1, 5), 3), ((2, 5), 2), ((1, 5), 1), ((1, 5), 0))), ("exit", 0), ("stop",), ("exit", 0))
        self.assertEqual(merged(single(points)).procedures, ((1, (("draw", (((1, 5), 0), ((2, 5), 1), ((2, 5), 2))), ("exit", 0), ("stop",))),))

    def test_totals_with_a_denominator_above_60(self):
        ends = (("exit", 0), ("exit", 0), ("stop",), ("reject",))
        # 1/15 and 1/20 add up to 7/60, but 1/22 and 1/33 to 5/66, and 1/12 and 3/7 to 43/84.
        draw = ("draw", (((1, 15), 1), ((1, 20), 2), ((53, 60), 3)))
        self.assertEqual(merged(single((draw,) + ends)).procedures[0][1][0], ("draw", (((7, 60), 1), ((53, 60), 2))))
        for branches in ((((1, 22), 1), ((1, 33), 2), ((1, 22), 3), ((29, 33), 4)), (((1, 12), 1), ((1, 12), 3), ((3, 7), 2), ((17, 42), 4))):
            self.assertIsNone(merged(single((("draw", branches),) + ends)))
            apart = (("exit", 0), ("reject",), ("exit", 0), ("stop",))
            self.assertIsNotNone(merged(single((("draw", branches),) + apart)))
            # also if no run comes to this draw, or in another procedure
            self.assertIsNone(merged(Graph(procedures=((0, (("stop",),)), (1, (("draw", branches),) + ends)))))

    def test_merged_graphs_keep_what_runs_do(self):
        for graph in chains():
            small = merged(graph)
            if small is None:
                continue
            for number, classes in enumerate(alike_classes(graph)):
                self.assertEqual(alike_classes(small)[number], [(index,) for index in range(len(classes))])
                for name, members in enumerate(classes):
                    for index in members:
                        for depth in (0, 2, 7):
                            self.assertEqual(masses(small, (number, name), depth), masses(graph, (number, index), depth))

    def test_chances_and_means(self):
        seen = 0
        for graph in chains():
            small = merged(graph)
            if small is None:
                continue
            try:
                solutions = (solve(graph), solve(small))
            except (NotTold, TooLarge):
                continue
            for number, classes in enumerate(alike_classes(graph)):
                for name, members in enumerate(classes):
                    for index in members:
                        for way in graph.ways((number, index)):
                            self.assertEqual(chance(graph, solutions[0], (number, index), way), chance(small, solutions[1], (number, name), way))
                        for what in ("reward", "steps", ("calls", 1 % len(graph.procedures))):
                            wanted = expected(graph, solutions[0], what, (number, index))
                            self.assertEqual(expected(small, solutions[1], what, (number, name)), wanted)
                        seen += 1
        self.assertGreater(seen, 100)

    def test_the_greatest_graph(self):
        # Nothing is alike here, so that just the branches come into the order of their points.
        wanted = []
        for exits, points in greatest_chain().procedures:
            points = [("draw", tuple(sorted(point[1], key=lambda branch: branch[1]))) if point[0] == "draw" else point for point in points]
            wanted.append((exits, tuple(points)))
        self.assertEqual(merged(greatest_chain()).procedures, tuple(wanted))


class DifferenceTest(unittest.TestCase):
    def test_the_example(self):
        self.assertEqual(first_difference(example(), (0, 0), (0, 1)), (1, 0))
        self.assertIsNone(first_difference(example(), (0, 1), (0, 2)))

    def test_the_least_way(self):
        points = (("draw", (((1, 3), 3), ((1, 3), 4), ((1, 3), 5))), ("draw", (((1, 3), 3), ((1, 6), 4), ((1, 2), 5))), ("reward", (1, 1), 3), ("exit", 0), ("reject",), ("stop",))
        graph = single(points)
        self.assertEqual(first_difference(graph, (0, 0), (0, 1)), (1, 1))
        self.assertEqual(first_difference(graph, (0, 1), (0, 2)), (1, 0))
        self.assertEqual(first_difference(graph, (0, 3), (0, 0)), (0, 0))
        self.assertEqual(first_difference(graph, (0, 4), (0, 5)), (0, 1))

    def test_against_the_masses(self):
        seen = {}
        for seed in range(80):
            graph = random_chain(seed, sizes=(5, 4, 3), exits=(1, 1, 2))
            plain = tuple([(exits, tuple([("reward", (1, 1), 0) if point[0] == "call" else point for point in points]))
                           for exits, points in graph.procedures])
            graph = Graph(procedures=plain)
            for one, other in product(graph.places(), repeat=2):
                if one[0] == 2 or other[0] == 2:
                    continue
                many = sum([len(graph.procedures[place[0]][1]) for place in (one, other)])
                wanted = None
                for depth in range(many + 3):
                    rows = list(zip(masses(graph, one, depth)[0], masses(graph, other, depth)[0]))
                    ways = [way for way, (first, second) in enumerate(rows) if first != second]
                    if ways:
                        self.assertLess(depth, many)
                        wanted = (depth, ways[0])
                        break
                self.assertEqual(first_difference(graph, one, other), wanted)
                seen[wanted is None] = seen.get(wanted is None, 0) + 1
        self.assertGreater(min(seen[True], seen[False]), 500)

    def test_a_late_difference(self):
        # Both procedures are as large as they can be: after 15 and 14 steps in a row, one of them stops.
        first = tuple([("reward", (1, 1), index + 1) for index in range(15)] + [("exit", 0)])
        second = tuple([("reward", (1, 1), index + 1) for index in range(14)] + [("draw", (((1, 60), 15), ((59, 60), 14))), ("exit", 0)])
        graph = Graph(procedures=((1, first), (1, second)))
        self.assertEqual(first_difference(graph, (0, 0), (1, 0)), (15, 0))
        loop = [("draw", (((1, 2), (index + 1) % 15), ((1, 2), index))) for index in range(15)]
        graph = Graph(procedures=((1, tuple(loop + [("exit", 0)])), (1, tuple(loop + [("exit", 0)]))))
        self.assertIsNone(first_difference(graph, (0, 0), (1, 7)))

    def test_procedures_of_different_sizes(self):
        line = tuple([("reward", (1, 1), index + 1) for index in range(15)] + [("exit", 0)])
        graph = Graph(procedures=((1, line), (1, (("draw", (((1, 1), 0),)),))))
        self.assertEqual(first_difference(graph, (0, 0), (1, 0)), (15, 0))
        self.assertEqual(first_difference(graph, (1, 0), (0, 0)), (15, 0))

    def test_places_that_are_not_alike_may_have_the_same_masses(self):
        points = (("reward", (1, 1), 2), ("reward", (2, 1), 2), ("exit", 0))
        self.assertIsNone(first_difference(single(points), (0, 0), (0, 1)))
        self.assertIs(alike(single(points), (0, 0), (0, 1)), False)

    def test_calls_and_exits(self):
        graph = Graph(procedures=((1, (("exit", 0),)), (2, (("exit", 0),)), (2, (("exit", 1), ("call", 0, (0,)))), (1, (("exit", 0),))))
        for one, other in (((0, 0), (2, 0)), ((2, 0), (0, 0)), ((2, 0), (2, 0)), ((1, 0), (2, 0))):
            self.assertEqual(error_of(first_difference, graph, one, other), ("NotTold", ("calls",)))
        for one, other in (((0, 0), (1, 0)), ((1, 0), (3, 0))):
            self.assertEqual(error_of(first_difference, graph, one, other), ("NotTold", ("exits",)))
        self.assertIsNone(first_difference(graph, (0, 0), (3, 0)))
        self.assertEqual(error_of(first_difference, graph, (2, 0), (1, 5)), ("BadValue", "other"))


class WrongArgumentsTest(unittest.TestCase):
    def errors(self, graph, one=None, other=None):
        found = [error_of(function, graph, one, other) for function in (alike, first_difference)]
        return found + [error_of(function, graph) for function in (alike_classes, merged)]

    def test_graphs(self):
        for value in ODD_VALUES + (0, walk().procedures):
            self.assertEqual(self.errors(value), [("BadValue", "graph")] * 4, value)

    def test_choices(self):
        self.assertEqual(self.errors(all_kinds()), [("NotTold", ("choices",))] * 4)

    def test_places(self):
        for value in ODD_VALUES + (0, (0, 5), (1, 0), (0, -1), (0, True), [0, 0], (0, 0, 0)):
            self.assertEqual(self.errors(example(), value, value)[:2], [("BadValue", "one")] * 2, value)
            self.assertEqual(self.errors(example(), (0, 0), value)[:2], [("BadValue", "other")] * 2, value)

    def test_new_lists(self):
        found = alike_classes(example())
        found[0].clear()
        found.append(1)
        self.assertEqual(alike_classes(example()), [[(0,), (1, 2), (3,), (4,)]])


if __name__ == "__main__":
    unittest.main()
