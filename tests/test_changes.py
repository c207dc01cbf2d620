"""Points 27 and 28, and oddscall/changes.py."""

import random
import unittest

from oddscall.changes import old_place, reached_graph, renamed
from oddscall.graphs import Graph
from oddscall.masses import lengths, masses
from tests.helpers import ODD_VALUES, error_of
from tests.samples import all_kinds, chain_of_kinds, greatest_chain, random_chain, walk


def graphs():
    """Return sample graphs."""
    return [walk(), all_kinds(), chain_of_kinds(), greatest_chain()] + [random_chain(seed) for seed in range(15)]


def random_orders(dice, graph):
    """Return an order of the procedures and orders of the points of each."""
    def order(many):
        rest = list(range(1, many))
        dice.shuffle(rest)
        return [0] + rest
    return (order(len(graph.procedures)), [order(len(points)) for _, points in graph.procedures])


def inverse(procedures, points):
    """Return the orders that lead back."""
    back = [procedures.index(number) for number in range(len(procedures))]
    return (back, [[points[old].index(index) for index in range(len(points[old]))] for old in procedures])


def plain_orders(graph):
    """Return the orders that leave everything where it is."""
    return (list(range(len(graph.procedures))), [list(range(len(points))) for _, points in graph.procedures])


class RenamedTest(unittest.TestCase):
    def test_every_kind_of_point(self):
        graph = all_kinds()
        new = renamed(graph, [0, 2, 1], [[0, 6, 5, 4, 3, 2, 1], [0, 3, 1, 2], [0, 1]])
        self.assertIsInstance(new, Graph)
        self.assertEqual(new.procedures, (
            (2, (
                ("draw", (((1, 2), 6), ((1, 3), 5), ((1, 6), 5))),
                ("stop",),
                ("reject",),
                ("exit", 1),
                ("reward", (3, 4), 0),
                ("call", 2, (3, 3, 1)),
                ("choose", (2, 4, 0, 4)),
            )),
            (0, (("choose", (1,)), ("stop",))),
            (3, (("call", 2, (1, 2, 3)), ("call", 1, ()), ("exit", 0), ("exit", 2))),
        ))

    def test_an_order_gives_old_indexes_and_not_new_ones(self):
        points = (("reward", (1, 1), 1), ("reward", (2, 1), 2), ("reward", (3, 1), 3), ("exit", 0))
        new = renamed(Graph(procedures=((1, points),)), [0], [[0, 2, 3, 1]])
        self.assertEqual(new.procedures, (
            (1, (("reward", (1, 1), 3), ("reward", (3, 1), 2), ("exit", 0), ("reward", (2, 1), 1))),))

    def test_three_procedures_in_a_circle(self):
        graph = Graph(procedures=((0, (("call", 1, ()),)), (0, (("call", 2, ()), ("stop",))), (0, (("call", 3, ()), ("reject",))),
                                  (0, (("call", 0, ()), ("stop",), ("reject",)))))
        new = renamed(graph, [0, 2, 3, 1], [[0], [0, 1], [0, 1], [0, 2, 1]])
        self.assertEqual(new.procedures, (
            (0, (("call", 3, ()),)), (0, (("call", 2, ()), ("reject",))), (0, (("call", 0, ()), ("reject",), ("stop",))),
            (0, (("call", 1, ()), ("stop",)))))

    def test_plain_orders_change_nothing(self):
        for graph in graphs():
            self.assertEqual(renamed(graph, *plain_orders(graph)).procedures, graph.procedures)

    def test_the_inverse_orders_lead_back(self):
        dice = random.Random(27)
        for graph in graphs():
            procedures, points = random_orders(dice, graph)
            new = renamed(graph, procedures, points)
            self.assertEqual(renamed(new, *inverse(procedures, points)).procedures, graph.procedures)

    def test_what_is_named_is_the_same(self):
        dice = random.Random(28)
        for graph in graphs():
            procedures, points = random_orders(dice, graph)
            new = renamed(graph, procedures, points)
            for place in new.places():
                old = old_place(procedures, points, place)
                self.assertEqual(sorted([old_place(procedures, points, one) for one in new.named(place)]), graph.named(old))
                self.assertEqual(new.point_at(place)[0], graph.point_at(old)[0])
                self.assertEqual(new.ways(place), graph.ways(old))

    def test_masses_are_the_same(self):
        dice = random.Random(29)
        for graph in [walk(), chain_of_kinds()] + [random_chain(seed) for seed in range(10)]:
            procedures, points = random_orders(dice, graph)
            new = renamed(graph, procedures, points)
            for place in new.places():
                old = old_place(procedures, points, place)
                self.assertEqual(masses(new, place, 12), masses(graph, old, 12))
                for way in graph.ways(old):
                    self.assertEqual(lengths(new, place, way, 8), lengths(graph, old, way, 8))

    def test_the_passed_lists_and_the_graph_are_unchanged(self):
        graph = all_kinds()
        procedures, points = [0, 2, 1], [[0, 6, 5, 4, 3, 2, 1], [0, 3, 1, 2], [0, 1]]
        first = renamed(graph, procedures, points)
        old_place(procedures, points, (1, 1))
        self.assertEqual((procedures, points), ([0, 2, 1], [[0, 6, 5, 4, 3, 2, 1], [0, 3, 1, 2], [0, 1]]))
        self.assertEqual(graph.procedures, all_kinds().procedures)
        kept = first.procedures
        procedures.reverse()
        points[0].clear()
        self.assertEqual(first.procedures, kept)


class WrongOrdersTest(unittest.TestCase):
    def wrong(self, procedures, points, name):
        self.assertEqual(error_of(renamed, all_kinds(), procedures, points), ("BadValue", name), (procedures, points))

    def test_orders_of_procedures(self):
        points = plain_orders(all_kinds())[1]
        for value in ODD_VALUES + (0, (0, 1, 2), [0], [0, 1], [0, 1, 2, 3], [0, 1, 1], [0, 1, 3], [0, 2, 2], [1, 0, 2], [2, 1, 0],
                                   [0, 0, 0], [0, 1, -1], [False, 1, 2], [0, True, 2], [0, 1, None], [0, 1, "2"], [[0], 1, 2],
                                   [0, 1, (2,)], "012"):
            self.wrong(value, points, "procedures")

    def test_orders_of_points(self):
        for value in ODD_VALUES + (0, [], [[0, 1]], [0, 1, 2]):
            self.wrong([0, 1, 2], value, "points")
        right = plain_orders(all_kinds())[1]
        self.wrong([0, 1, 2], tuple(right), "points")
        self.wrong([0, 1, 2], right + [[0]], "points")
        self.wrong([0, 1, 2], right[:2], "points")
        for row in ODD_VALUES + (0, (0, 1), [0], [0, 1, 2], [1, 0], [0, 0], [1, 1], [0, 2], [0, -1], [0, True], [False, 1],
                                 [0, None], [0, "1"], [0, [1]], "01"):
            self.wrong([0, 1, 2], right[:2] + [row], "points")

    def test_orders_of_points_stand_by_old_indexes(self):
        graph = all_kinds()
        right = plain_orders(graph)[1]
        self.assertIsNone(error_of(renamed, graph, [0, 2, 1], right))
        self.wrong([0, 2, 1], [right[0], right[2], right[1]], "points")

    def test_the_procedures_come_first(self):
        self.wrong([0, 1], None, "procedures")
        self.wrong([1, 0, 2], [[0]], "procedures")


class OldPlaceTest(unittest.TestCase):
    def test_it_is_the_place_that_it_was(self):
        procedures, points = [0, 2, 1], [[0, 2, 1], [0, 3, 1, 2], [0, 1]]
        expected = {(0, 0): (0, 0), (0, 1): (0, 2), (0, 2): (0, 1), (1, 0): (2, 0), (1, 1): (2, 1),
                    (2, 0): (1, 0), (2, 1): (1, 3), (2, 2): (1, 1), (2, 3): (1, 2)}
        for place, old in expected.items():
            self.assertEqual(old_place(procedures, points, place), old)
            self.assertIsInstance(old_place(procedures, points, place), tuple)

    def test_all_places_stand_for_all_places(self):
        dice = random.Random(30)
        for graph in graphs():
            procedures, points = random_orders(dice, graph)
            new = renamed(graph, procedures, points)
            self.assertEqual(sorted([old_place(procedures, points, place) for place in new.places()]), graph.places())


class ReachedGraphTest(unittest.TestCase):
    def test_a_procedure_that_is_left_out(self):
        graph = Graph(procedures=(
            (1, (("reward", (1, 2), 2), ("stop",), ("call", 2, (4, 3)), ("exit", 0), ("reject",), ("call", 1, ()))),
            (0, (("call", 2, (0, 0)),)),
            (2, (("draw", (((1, 2), 3), ((1, 2), 2))), ("choose", (0, 1)), ("exit", 1), ("stop",)))))
        new, places = reached_graph(graph)
        self.assertIsInstance(new, Graph)
        self.assertEqual(new.procedures, (
            (1, (("reward", (1, 2), 1), ("call", 1, (3, 2)), ("exit", 0), ("reject",))),
            (2, (("draw", (((1, 2), 2), ((1, 2), 1))), ("exit", 1), ("stop",)))))
        self.assertEqual(places, [(0, 0), (0, 2), (0, 3), (0, 4), (2, 0), (2, 2), (2, 3)])

    def test_the_exits_stay_though_they_are_not_reached(self):
        graph = Graph(procedures=((3, (("call", 1, (1, 1)), ("stop",), ("exit", 2))), (2, (("reject",), ("exit", 1)))))
        new, places = reached_graph(graph)
        self.assertEqual(new.procedures, ((3, (("call", 1, (1, 1)), ("stop",))), (2, (("reject",),))))
        self.assertEqual(places, [(0, 0), (0, 1), (1, 0)])

    def test_choices_go_on_at_all_their_points(self):
        graph = Graph(procedures=((1, (("choose", (3, 1)), ("stop",), ("reject",), ("exit", 0))),))
        new, places = reached_graph(graph)
        self.assertEqual(new.procedures, ((1, (("choose", (2, 1)), ("stop",), ("exit", 0))),))
        self.assertEqual(places, [(0, 0), (0, 1), (0, 3)])

    def test_a_single_place(self):
        graph = Graph(procedures=((1, (("exit", 0), ("call", 1, ()))), (0, (("stop",),))))
        new, places = reached_graph(graph)
        self.assertEqual(new.procedures, ((1, (("exit", 0),)),))
        self.assertEqual(places, [(0, 0)])

    def test_what_is_all_reached_stays(self):
        for graph in (walk(), all_kinds(), chain_of_kinds()):
            new, places = reached_graph(graph)
            self.assertEqual(new.procedures, graph.procedures)
            self.assertEqual(places, graph.places())

    def test_a_second_time_without_effect(self):
        for graph in graphs():
            new, places = reached_graph(graph)
            self.assertEqual(places, graph.reached((0, 0)))
            again, same = reached_graph(new)
            self.assertEqual(again.procedures, new.procedures)
            self.assertEqual(same, new.places())
            self.assertEqual(len(places), len(same))

    def test_masses_are_the_same(self):
        for graph in [chain_of_kinds()] + [random_chain(seed) for seed in range(15)]:
            new, places = reached_graph(graph)
            for place, old in zip(new.places(), places):
                self.assertEqual(masses(new, place, 10), masses(graph, old, 10))

    def test_the_result_is_a_pair_with_a_new_list(self):
        graph = all_kinds()
        result = reached_graph(graph)
        self.assertIsInstance(result, tuple)
        self.assertIsInstance(result[1], list)
        result[1].clear()
        self.assertEqual(reached_graph(graph)[1], graph.places())
        self.assertEqual(graph.procedures, all_kinds().procedures)


if __name__ == "__main__":
    unittest.main()
