"""Points 22 to 25 and the class Graph of oddscall/graphs.py."""

import unittest

from oddscall.graphs import Graph
from tests.helpers import ODD_VALUES, error_of
from tests.samples import all_kinds, chain_of_kinds, greatest_chain, random_chain, walk

NO_PLACES = ODD_VALUES + (
    0, (0,), (0, 0, 0), [0, 0], (0, -1), (-1, 0), (True, 0), (0, True), (False, 0), (0, False), (0, None), (None, 0),
    ("0", "0"), (0, "0"), "00", ((0, 0),), ((0, 0), (0, 0)), (0, (0,)), (10 ** 30, 0))


def graphs():
    """Return sample graphs."""
    return [walk(), all_kinds(), chain_of_kinds(), greatest_chain()] + [random_chain(seed) for seed in range(20)]


class GraphTest(unittest.TestCase):
    def test_the_procedures_are_the_argument(self):
        procedures = ((1, (("exit", 0),)), (0, (("reject",), ("stop",))))
        self.assertEqual(Graph(procedures=procedures).procedures, procedures)
        self.assertIsInstance(Graph(procedures=procedures).procedures, tuple)

    def test_the_argument_is_passed_by_its_name(self):
        with self.assertRaises(TypeError):
            Graph(((1, (("exit", 0),)),))

    def test_equal_points_of_different_procedures_are_kept_apart(self):
        graph = Graph(procedures=((2, (("exit", 1),)), (1, (("exit", 0), ("stop",)))))
        self.assertEqual(graph.point_at((0, 0)), ("exit", 1))
        self.assertEqual(graph.point_at((1, 0)), ("exit", 0))


class ChainTest(unittest.TestCase):
    def test_chains(self):
        for graph in (walk(), chain_of_kinds(), greatest_chain()):
            self.assertIs(graph.is_chain(), True)

    def test_any_choice_makes_the_difference(self):
        self.assertIs(all_kinds().is_chain(), False)
        last = (1, (("stop",), ("choose", (0,))))
        self.assertIs(Graph(procedures=((0, (("stop",),)), last)).is_chain(), False)
        self.assertIs(Graph(procedures=(last, (0, (("stop",),)))).is_chain(), False)


class PlacesTest(unittest.TestCase):
    def test_all_places_in_their_order(self):
        self.assertEqual(walk().places(), [(0, 0), (0, 1), (0, 2), (0, 3)])
        graph = Graph(procedures=((0, (("stop",),) * 3), (1, (("stop",),)), (3, (("exit", 2), ("exit", 1)))))
        self.assertEqual(graph.places(), [(0, 0), (0, 1), (0, 2), (1, 0), (2, 0), (2, 1)])

    def test_places_are_places(self):
        for graph in graphs():
            for place in graph.places():
                self.assertIs(graph.is_place(place), True)

    def test_a_pair_one_beyond(self):
        graph = all_kinds()
        for value in ((0, 7), (1, 4), (2, 2), (3, 0), (0, 16), (6, 0)):
            self.assertIs(graph.is_place(value), False, value)
        for value in ((0, 6), (1, 3), (2, 1)):
            self.assertIs(graph.is_place(value), True, value)

    def test_values_that_are_no_places(self):
        for graph in (walk(), all_kinds()):
            for value in NO_PLACES:
                self.assertIs(graph.is_place(value), False, value)

    def test_the_points(self):
        for graph in graphs():
            for place in graph.places():
                self.assertEqual(graph.point_at(place), graph.procedures[place[0]][1][place[1]])

    def test_what_is_no_place_has_no_answer(self):
        for graph in (walk(), all_kinds()):
            for value in NO_PLACES + ((0, 7), (3, 0)):
                for method in (graph.point_at, graph.ways, graph.named, graph.reached):
                    self.assertEqual(error_of(method, value), ("BadValue", "place"), value)


class WaysTest(unittest.TestCase):
    def test_exits_and_two_more(self):
        for exits in range(4):
            graph = Graph(procedures=((exits, (("stop",), ("reject",))), (0, (("stop",),))))
            self.assertEqual(graph.ways((0, 0)), list(range(exits + 2)))
            self.assertEqual(graph.ways((0, 1)), list(range(exits + 2)))
            self.assertEqual(graph.ways((1, 0)), [0, 1])


class NamedTest(unittest.TestCase):
    def test_every_kind_of_point(self):
        graph = all_kinds()
        expected = {
            (0, 0): [(0, 1), (0, 2)],
            (0, 1): [(0, 0), (0, 3), (0, 5)],
            (0, 2): [(0, 4), (0, 6), (1, 0)],
            (0, 3): [(0, 0)],
            (0, 4): [], (0, 5): [], (0, 6): [],
            (1, 0): [(1, 0), (1, 1), (1, 2), (1, 3)],
            (1, 1): [], (1, 2): [],
            (1, 3): [(2, 0)],
            (2, 0): [(2, 1)],
            (2, 1): [],
        }
        for place, names in expected.items():
            self.assertEqual(graph.named(place), names, place)

    def test_each_place_once_and_in_order(self):
        branches = tuple([((1, 4), index) for index in (3, 1, 3, 2)])
        graph = Graph(procedures=((0, (("draw", branches), ("choose", (2, 2, 1, 0)), ("stop",), ("reject",))),))
        self.assertEqual(graph.named((0, 0)), [(0, 1), (0, 2), (0, 3)])
        self.assertEqual(graph.named((0, 1)), [(0, 0), (0, 1), (0, 2)])

    def test_a_call_of_an_earlier_procedure(self):
        graph = Graph(procedures=((2, (("exit", 0),)), (1, (("exit", 0), ("call", 0, (1, 0))))))
        self.assertEqual(graph.named((1, 1)), [(0, 0), (1, 0), (1, 1)])

    def test_a_call_of_the_own_procedure_that_goes_on_at_its_beginning(self):
        graph = Graph(procedures=((1, (("call", 0, (0,)),)),))
        self.assertEqual(graph.named((0, 0)), [(0, 0)])


class ReachedTest(unittest.TestCase):
    def test_the_place_itself_is_reached(self):
        graph = all_kinds()
        self.assertEqual(graph.reached((0, 4)), [(0, 4)])
        self.assertEqual(graph.reached((2, 1)), [(2, 1)])

    def test_across_calls(self):
        graph = all_kinds()
        second = [(1, 0), (1, 1), (1, 2), (1, 3), (2, 0), (2, 1)]
        self.assertEqual(graph.reached((0, 2)), [(0, 2), (0, 4), (0, 6)] + second)
        self.assertEqual(graph.reached((1, 0)), second)
        self.assertEqual(graph.reached((1, 3)), [(1, 3), (2, 0), (2, 1)])
        self.assertEqual(graph.reached((0, 0)), graph.places())
        self.assertEqual(graph.reached((0, 3)), graph.places())

    def test_the_beginning_of_a_called_procedure_is_reached_behind_later_points(self):
        graph = Graph(procedures=((0, (("stop",),)), (1, (("exit", 0), ("call", 1, (2,)), ("stop",)))))
        self.assertEqual(graph.reached((1, 1)), [(1, 0), (1, 1), (1, 2)])

    def test_it_is_the_least_such_set(self):
        for graph in graphs():
            for place in graph.places():
                found = {place}
                while True:
                    more = found.union(*[graph.named(one) for one in found])
                    if more == found:
                        break
                    found = more
                self.assertEqual(graph.reached(place), sorted(found))


class ReturnedListsTest(unittest.TestCase):
    def test_they_are_new_ones(self):
        graph = all_kinds()
        for call in (graph.places, lambda: graph.ways((0, 0)), lambda: graph.named((0, 0)),
                     lambda: graph.reached((0, 0))):
            first = call()
            self.assertIsInstance(first, list)
            kept = list(first)
            first.clear()
            second = call()
            self.assertEqual(second, kept)
            second.append("more")
            self.assertEqual(call(), kept)
        self.assertEqual(graph.procedures, all_kinds().procedures)


if __name__ == "__main__":
    unittest.main()
