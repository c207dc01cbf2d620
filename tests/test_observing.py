"""Points 81 to 86, and oddscall/observing.py."""

import unittest
from fractions import Fraction

from oddscall.chances import chance
from oddscall.following import follow
from oddscall.graphs import Graph
from oddscall.masses import masses
from oddscall.numbers import compare_numbers, element_of, number_of
from oddscall.observing import endings, observed, observed_at, observed_draws, posterior, rejecting
from oddscall.parts import why_not
from oddscall.solving import solve
from tests.helpers import ODD_VALUES, error_of, fraction, rational
from tests.samples import all_kinds, chain_of_kinds, random_chain, walk
from tests.told import Root, critical, random_recursion, root, rooted, straight, three_calls, twice, with_inner_loop, with_solutions

ZERO = ("rational", (0, 1))
ONE = ("rational", (1, 1))


def coins():
    """Return the chain of the document in which two coins are tossed."""
    first = ("draw", (((1, 2), 1), ((1, 2), 4)))
    second = ("draw", (((1, 2), 2), ((1, 2), 3)))
    return Graph(procedures=((2, (first, second, ("reject",), ("exit", 0), ("exit", 1))),))


def two_exits():
    """Return a chain that finishes with two exits after a call whose chance is a root."""
    points = (("draw", (((1, 3), 1), ((2, 3), 2))), ("call", 0, (3,)), ("draw", (((1, 2), 4), ((1, 2), 5))), ("exit", 0), ("exit", 1), ("reject",))
    return Graph(procedures=(twice(0, (1, 4), (1, 2)), (2, points)))


def told():
    """Return told chains whose chances lie in one field, with their solutions."""
    graphs = [walk(), straight(), rooted(), critical(), with_inner_loop(), coins(), two_exits()]
    graphs += [random_chain(seed) for seed in range(12)] + [random_recursion(seed) for seed in range(40)]
    return with_solutions(graphs)


class EndingsTest(unittest.TestCase):
    def test_the_walk(self):
        half = ("rational", (1, 2))
        self.assertEqual(endings(walk(), solve(walk()), (0, 0)), ((half,), ZERO, ZERO, half))
        self.assertEqual(endings(walk(), solve(walk()), (0, 3)), ((ONE,), ZERO, ZERO, ZERO))

    def test_procedures_without_exits(self):
        points = (("draw", (((1, 2), 1), ((1, 3), 2), ((1, 6), 3))), ("reject",), ("stop",), ("draw", (((1, 1), 3),)))
        graph = Graph(procedures=((0, points),))
        self.assertEqual(endings(graph, solve(graph), (0, 0)), ((), ("rational", (1, 2)), ("rational", (1, 3)), ("rational", (1, 6))))

    def test_roots(self):
        found = endings(rooted(), solve(rooted()), (0, 0))
        self.assertEqual(found, ((("root", (1, -4, 2), 0),), ZERO, ("root", (-1, 0, 2), 1), ZERO))

    def test_they_have_the_sum_1(self):
        for graph, solution in told():
            for place in graph.places():
                exits, rejected, stopped, endless = endings(graph, solution, place)
                self.assertIsInstance(exits, tuple)
                numbers = exits + (rejected, stopped)
                self.assertEqual(numbers, tuple([chance(graph, solution, place, way) for way in graph.ways(place)]))
                field, values, _ = solution
                total = Root(field, 0)
                for element in values[place[0]][place[1]]:
                    total = total + root(field, element)
                rest = Root(field, 1) + Root(field, -1) * total
                self.assertEqual(endless, number_of(field, rest.element()))
                self.assertGreaterEqual(compare_numbers(endless, ZERO), 0)


class ObservedTest(unittest.TestCase):
    def test_coins(self):
        graph, solution = coins(), solve(coins())
        self.assertEqual(posterior(graph, solution, (0, 0)), (("rational", (1, 3)), ("rational", (2, 3))))
        self.assertEqual(posterior(graph, solution, (0, 1)), (ONE, ZERO))
        self.assertEqual(observed(graph, solution, (0, 0), 1), ("rational", (2, 3)))
        self.assertEqual(observed(graph, solution, (0, 1), 1), ZERO)

    def test_no_run_finishes(self):
        graph, solution = coins(), solve(coins())
        self.assertIsNone(posterior(graph, solution, (0, 2)))
        self.assertIsNone(observed(graph, solution, (0, 2), 0))
        loop = Graph(procedures=((1, (("call", 0, (1,)), ("exit", 0))), (0, (("stop",),))))
        self.assertIsNone(posterior(loop, solve(loop), (0, 0)))
        # A procedure without exits never finishes.
        self.assertIsNone(posterior(loop, solve(loop), (1, 0)))
        self.assertEqual(error_of(observed, loop, solve(loop), (1, 0), 0), ("BadValue", "exit"))

    def test_stopped_and_endless_runs_are_left_out(self):
        self.assertEqual(posterior(walk(), solve(walk()), (0, 0)), (ONE,))
        self.assertEqual(posterior(rooted(), solve(rooted()), (0, 0)), (ONE,))
        self.assertEqual(observed(rooted(), solve(rooted()), (0, 1), 0), ONE)

    def test_roots(self):
        graph = two_exits()
        solution = solve(graph)
        # With x = 1 - sqrt(2) / 2 they are x / (x + 1) and 1 / (x + 1): x / 3 and 1 / 3 are the chances.
        found = posterior(graph, solution, (1, 0))
        for number, wanted in zip(found, ((1 - 2 ** -0.5) / (2 - 2 ** -0.5), 1 / (2 - 2 ** -0.5))):
            self.assertEqual(number[0], "root")
            for more, side in ((-1e-9, 1), (1e-9, -1)):
                self.assertEqual(compare_numbers(number, ("rational", rational(Fraction(wanted + more)))), side)
        self.assertEqual([observed(graph, solution, (1, 0), way) for way in range(2)], list(found))

    def test_all_places(self):
        finishing = 0
        for graph, solution in told():
            field, values, _ = solution
            for place in graph.places():
                exits = graph.procedures[place[0]][0]
                chances = values[place[0]][place[1]][:exits]
                total = Root(field, 0)
                for element in chances:
                    total = total + root(field, element)
                found = posterior(graph, solution, place)
                self.assertEqual([observed(graph, solution, place, way) for way in range(exits)], list(found or [None] * exits))
                if total.x == total.y == 0:
                    self.assertIsNone(found)
                    continue
                finishing += 1
                self.assertIsInstance(found, tuple)
                for element, number in zip(chances, found):
                    # The number times the chance to finish is the chance.
                    own_field, item = element_of(number)
                    if own_field == 0:
                        self.assertEqual((root(field, item) * total).element(), element)
                    self.assertEqual(own_field != 0, number[0] == "root")
        self.assertGreater(finishing, 100)

    def test_the_solution_does_not_matter(self):
        for graph, solution in told():
            if solution[0] == 0:
                for place in graph.places()[:4]:
                    other = (3,) + solution[1:]
                    self.assertEqual(posterior(graph, other, place), posterior(graph, solution, place))
                    self.assertEqual(endings(graph, other, place), endings(graph, solution, place))


class ObservedMassTest(unittest.TestCase):
    def test_coins(self):
        self.assertEqual(observed_at(coins(), (0, 0), 0, 1), (0, 1))
        self.assertEqual(observed_at(coins(), (0, 0), 1, 1), (1, 1))
        self.assertIsNone(observed_at(coins(), (0, 0), 0, 0))
        self.assertEqual(observed_at(coins(), (0, 0), 0, 2), (1, 3))
        self.assertIsNone(observed_at(coins(), (0, 2), 0, 40))

    def test_masses(self):
        graphs = [walk(), chain_of_kinds(), three_calls(), coins(), two_exits()] + [random_chain(seed) for seed in range(10)]
        for graph in graphs:
            for place in graph.places():
                exits = graph.procedures[place[0]][0]
                for depth in (0, 1, 2, 5, 40):
                    found, _ = masses(graph, place, depth)
                    total = sum([fraction(one) for one in found[:exits]], Fraction(0))
                    for way in range(exits):
                        wanted = rational(fraction(found[way]) / total) if total else None
                        self.assertEqual(observed_at(graph, place, way, depth), wanted)

    def test_they_come_near(self):
        graph = two_exits()
        found = posterior(graph, solve(graph), (1, 0))
        for way in range(2):
            mass = fraction(observed_at(graph, (1, 0), way, 40))
            for more, side in ((-Fraction(1, 1000), 1), (Fraction(1, 1000), -1)):
                self.assertEqual(compare_numbers(found[way], ("rational", rational(mass + more))), side)


class DrawsTest(unittest.TestCase):
    def test_coins(self):
        self.assertEqual(observed_draws(coins(), solve(coins()), 0), (((1, 3), (2, 3)), ((0, 1), (1, 1)), None, None, None))

    def test_branches_and_draws_from_which_no_run_finishes(self):
        points = (
            ("draw", (((1, 2), 1), ((1, 4), 2), ((1, 8), 3), ((1, 8), 4))), ("draw", (((1, 1), 1),)), ("draw", (((1, 3), 5), ((2, 3), 6))),
            ("exit", 0), ("draw", (((1, 2), 7), ((1, 2), 8))), ("reject",), ("stop",), ("reward", (1, 1), 3), ("exit", 1))
        graph = Graph(procedures=((2, points), (1, (("call", 1, (0,)),))))
        found = observed_draws(graph, solve(graph), 0)
        self.assertEqual(found, (((0, 1), (0, 1), (1, 2), (1, 2)), None, None, None, ((1, 2), (1, 2)), None, None, None, None))

    def test_loops(self):
        points = (("draw", (((1, 2), 0), ((1, 4), 1), ((1, 4), 2))), ("exit", 0), ("draw", (((1, 2), 0), ((1, 2), 3))), ("stop",))
        graph = Graph(procedures=((1, points),))
        # From 0 the chance to finish is 2/3, and from 2 it is 1/3.
        self.assertEqual(observed_draws(graph, solve(graph), 0), (((1, 2), (3, 8), (1, 8)), None, ((1, 1), (0, 1)), None))

    def test_rational_in_any_field(self):
        points = (("draw", (((1, 2), 1), ((1, 2), 2))), ("exit", 0), ("reject",))
        graph = Graph(procedures=(twice(0, (1, 4), (1, 2)), (1, points), (0, (("stop",),))))
        solution = solve(graph)
        self.assertNotEqual(solution[0], 0)
        self.assertEqual(observed_draws(graph, solution, 1), (((1, 1), (0, 1)), None, None))
        self.assertEqual(observed_draws(graph, solution, 2), (None,))

    def test_sums_and_runs(self):
        checked = 0
        for graph, solution in told():
            for number, (exits, points) in enumerate(graph.procedures):
                if any([point[0] == "call" for point in points]):
                    continue
                found = observed_draws(graph, solution, number)
                self.assertEqual(len(found), len(points))
                for point, chances in zip(points, found):
                    if chances is not None:
                        self.assertEqual(point[0], "draw")
                        self.assertEqual(sum([fraction(one) for one in chances]), 1)
                checked += self.check_runs(graph, solution, number, found)
        self.assertGreater(checked, 20)

    def check_runs(self, graph, solution, number, draws):
        """Check the runs of at most five items from the point 0 that finish, and return how many there are."""
        chances = solution[1][number][0][:graph.procedures[number][0]]
        finishing = sum([Fraction(*element[0]) for element in chances], Fraction(0))
        waiting, found = [()], 0
        while waiting:
            tape = waiting.pop()
            state, _, _, used, weight, _, places = follow(graph, (number, 0), tape)
            if state == "waiting" and len(tape) < 5:
                waiting.extend([tape + (item,) for item in range(len(graph.point_at(places[-1])[1]))])
            if state == "finished" and used == len(tape):
                found += 1
                product = Fraction(1)
                index = 0
                for item in tape:
                    while graph.procedures[number][1][index][0] == "reward":
                        index = graph.procedures[number][1][index][2]
                    product *= fraction(draws[index][item])
                    index = graph.procedures[number][1][index][1][item][1]
                self.assertEqual(product, fraction(weight) / finishing)
        return found


class RejectingTest(unittest.TestCase):
    def test_points_are_replaced(self):
        graph = chain_of_kinds()
        self.assertEqual(rejecting(graph, []).procedures, graph.procedures)
        places = [(0, 3), (1, 0), (0, 3)]
        kept = list(places)
        found = rejecting(graph, places)
        self.assertIsInstance(found, Graph)
        self.assertEqual(places, kept)
        for place in graph.places():
            self.assertEqual(found.point_at(place), ("reject",) if place in places else graph.point_at(place))
        self.assertEqual([exits for exits, _ in found.procedures], [exits for exits, _ in graph.procedures])
        self.assertEqual(graph.procedures, chain_of_kinds().procedures)
        every = rejecting(graph, graph.places())
        self.assertEqual({point for _, points in every.procedures for point in points}, {("reject",)})

    def test_graphs_with_choices(self):
        found = rejecting(all_kinds(), [(2, 0)])
        self.assertEqual(found.procedures[:2], all_kinds().procedures[:2])
        self.assertEqual(found.procedures[2], (0, (("reject",), ("stop",))))

    def test_no_chance_of_an_exit_grows(self):
        for graph, solution in told()[:12]:
            for place in graph.places():
                other = rejecting(graph, [place])
                if why_not(other) is not None:
                    continue
                after = solve(other)
                for start in graph.places():
                    for way in range(graph.procedures[start[0]][0]):
                        self.assertLessEqual(compare_numbers(chance(other, after, start, way), chance(graph, solution, start, way)), 0)

    def test_the_only_exit_that_is_left(self):
        graph = two_exits()
        for left, gone in ((0, (1, 4)), (1, (1, 3))):
            other = rejecting(graph, [gone])
            self.assertEqual(observed(other, solve(other), (1, 0), left), ONE)


class WrongArgumentsTest(unittest.TestCase):
    def calls(self, graph, solution, place=None):
        return [error_of(endings, graph, solution, place), error_of(observed, graph, solution, place, None), error_of(posterior, graph, solution, place)]

    def test_graphs(self):
        for value in ODD_VALUES + (0, walk().procedures):
            self.assertEqual(self.calls(value, None), [("BadValue", "graph")] * 3)
            self.assertEqual(error_of(observed_at, value, None, None, None), ("BadValue", "graph"))
            self.assertEqual(error_of(observed_draws, value, None, None), ("BadValue", "graph"))
            self.assertEqual(error_of(rejecting, value, None), ("BadValue", "graph"))

    def test_graphs_that_are_not_told(self):
        for graph, reason in ((all_kinds(), ("choices",)), (three_calls(), ("part", 1))):
            self.assertEqual(self.calls(graph, None), [("NotTold", reason)] * 3)
            self.assertEqual(error_of(observed_draws, graph, None, None), ("NotTold", reason))
        self.assertEqual(error_of(observed_at, all_kinds(), None, None, None), ("NotTold", ("choices",)))
        self.assertEqual(error_of(observed_at, three_calls(), None, None, None), ("BadValue", "place"))
        self.assertEqual(error_of(rejecting, all_kinds(), None), ("BadValue", "places"))

    def test_solutions_and_places(self):
        for value in ODD_VALUES + (solve(rooted()),):
            self.assertEqual(self.calls(walk(), value), [("BadValue", "solution")] * 3)
            self.assertEqual(error_of(observed_draws, walk(), value, None), ("BadValue", "solution"))
        for value in ODD_VALUES + (0, (0, 4), (1, 0), (0, -1), (0, True), [0, 0], (0, 0, 0)):
            self.assertEqual(self.calls(walk(), solve(walk()), value), [("BadValue", "place")] * 3, value)
            self.assertEqual(error_of(observed_at, walk(), value, None, None), ("BadValue", "place"), value)

    def test_exits(self):
        graph, solution = coins(), solve(coins())
        for value in ODD_VALUES + (-1, 2, 3, (0,), "0"):
            self.assertEqual(error_of(observed, graph, solution, (0, 0), value), ("BadValue", "exit"), value)
            self.assertEqual(error_of(observed_at, graph, (0, 0), value, None), ("BadValue", "exit"), value)

    def test_depths(self):
        for value in ODD_VALUES + (-1, 41, (0,), "0"):
            self.assertEqual(error_of(observed_at, coins(), (0, 0), 0, value), ("BadValue", "depth"), value)

    def test_procedures(self):
        graph = Graph(procedures=((1, (("exit", 0), ("call", 1, ()), ("call", 0, (0,)))), (0, (("stop",),)), (1, (("call", 2, (0,)),))))
        solution = solve(graph)
        for value in ODD_VALUES + (-1, 3, (0,), "0"):
            self.assertEqual(error_of(observed_draws, graph, solution, value), ("BadValue", "procedure"), value)
        self.assertEqual(error_of(observed_draws, graph, solution, 0), ("NotTold", ("call", 0, 1)))
        self.assertEqual(error_of(observed_draws, graph, solution, 2), ("NotTold", ("call", 2, 0)))
        self.assertIsNone(error_of(observed_draws, graph, solution, 1))

    def test_lists_of_places(self):
        for value in ODD_VALUES + (0, (0, 0), ((0, 0),), [(0, 4)], [(1, 0)], [(0, 0), (0, -1)], [(0, True)], [[0, 0]], [0], [None], [(0, 0, 0)]):
            if value not in ([], [(0, 0)]):
                self.assertEqual(error_of(rejecting, walk(), value), ("BadValue", "places"), value)
        self.assertIsNone(error_of(rejecting, walk(), [(0, 0)]))


if __name__ == "__main__":
    unittest.main()
