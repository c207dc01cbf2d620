"""Points 77 to 80, 74 to 76 for chains, and oddscall/rewards.py."""

import random
import unittest
from fractions import Fraction

from oddscall.graphs import Graph
from oddscall.numbers import compare_numbers, is_number
from oddscall.rewards import accepts_means, expected, mean_at, means
from oddscall.solving import solve
from tests.helpers import ODD_VALUES, error_of, fraction, rational
from tests.samples import all_kinds, chain_of_kinds, greatest_chain, random_chain, steps_from, walk, way_of_end
from tests.told import (
    critical, looped_before_the_call, random_recursion, rooted, straight, tail_calls, three_calls, twice, with_inner_loop, with_solutions)
from tests.weighted import ONE, ZERO, Reading, element

WHATS = ("reward", "steps", ("calls", 0))


def averages(graph, what, place, depth):
    """Return the mean at each depth from 0 on, by all configurations side by side."""
    now = {(place,): Fraction(1)}
    found = [Fraction(0)]
    for _ in range(depth):
        total = found[-1]
        after = {}
        for stack, weight in now.items():
            if way_of_end(graph, place, stack) is not None:
                continue
            point = graph.procedures[stack[-1][0]][1][stack[-1][1]]
            if what == "steps":
                total += weight
            elif what == "reward" and point[0] == "reward":
                total += weight * Fraction(*point[1])
            elif point[0] == "call" and what == ("calls", point[1]):
                total += weight
            for chance, other in steps_from(graph, stack):
                after[other] = after.get(other, 0) + weight * chance
        found.append(total)
        now = after
    return found


def counting_chain():
    """Return a chain with rewards and calls in a loop, in which everything is finite."""
    first = (1, (
        ("draw", (((1, 2), 1), ((1, 4), 2), ((1, 4), 2))), ("reward", (3, 2), 0), ("call", 1, (3, 0)), ("reward", (1, 3), 4),
        ("exit", 0)))
    second = (2, (("draw", (((1, 3), 1), ((2, 3), 2))), ("exit", 0), ("reward", (1, 1), 3), ("exit", 1)))
    return Graph(procedures=(first, second))


def endless():
    """Return a chain with a call that never returns, and a loop that counts behind a place that is not reached."""
    first = (1, (("call", 1, (1,)), ("reward", (1, 1), 1), ("exit", 0), ("draw", (((1, 2), 0), ((1, 2), 2)))))
    second = (1, (("draw", (((1, 1), 1),)), ("draw", (((1, 1), 0),))))
    return Graph(procedures=(first, second))


def told():
    """Return told chains whose chances lie in one field, with their solutions."""
    graphs = [
        walk(), straight(), rooted(), critical(), with_inner_loop(), looped_before_the_call(), counting_chain(), endless()]
    graphs += [random_chain(seed) for seed in range(12)] + [random_recursion(seed) for seed in range(60)]
    return with_solutions(graphs)


def literal_system(graph, solution, what):
    """Return the system of point 78 with its nodes numbered by their places, as fractions allow for rational solutions."""
    own, names = {}, {}
    for place in graph.places():
        number, _ = place
        point = graph.point_at(place)
        named = []
        count = Fraction(0)
        if point[0] == "draw":
            named = [(fraction(chance), (number, target)) for chance, target in point[1]]
            count = Fraction(what == "steps")
        elif point[0] == "reward":
            named = [(Fraction(1), (number, point[2]))]
            count = {"steps": Fraction(1), "reward": fraction(point[1])}.get(what, Fraction(0))
        elif point[0] == "call":
            chances = [fraction(solution[1][point[1]][0][result][0]) for result in range(len(point[2]))]
            named = [(Fraction(1), (point[1], 0))]
            named += [(chance, (number, target)) for chance, target in zip(chances, point[2]) if chance > 0]
            count = 1 + sum(chances) if what == "steps" else Fraction(what == ("calls", point[1]))
        own[place] = element(count)
        weights = {}
        for chance, target in named:
            weights[target] = weights.get(target, 0) + chance
        names[place] = {target: element(weight) for target, weight in weights.items()}
    return (own, names)


class MeansTest(unittest.TestCase):
    def test_finite_means(self):
        graph = counting_chain()
        solution = solve(graph)
        # From the start a = (a + 3/2) / 2 + b / 2 and b = 2/3 + 1/3 * 1/3 + 2/3 * a for the rewards.
        self.assertEqual(expected(graph, solution, "reward", (1, 0)), ("rational", (2, 3)))
        self.assertEqual(expected(graph, solution, "reward", (0, 2)), ("rational", (16, 3)))
        self.assertEqual(expected(graph, solution, "reward", (0, 0)), ("rational", (41, 6)))
        # The procedure 1 is called until it finishes with the exit 0, three times on average.
        self.assertEqual(expected(graph, solution, ("calls", 1), (0, 0)), ("rational", (3, 1)))
        self.assertEqual(expected(graph, solution, ("calls", 0), (0, 0)), ("rational", (0, 1)))
        # It makes 5/3 steps each time: a = 1 + (1 + a) / 2 + (1 + 5/3 + 1 + 1/3 + 2/3 * a) / 2.
        self.assertEqual(expected(graph, solution, "steps", (1, 0)), ("rational", (5, 3)))
        self.assertEqual(expected(graph, solution, "steps", (0, 0)), ("rational", (21, 1)))
        totals, evidence = means(graph, solution, "steps")
        self.assertEqual([word for word, _ in evidence], ["bounded"])
        self.assertEqual(totals[0][4], ZERO)
        self.assertIsInstance(totals, tuple)
        self.assertEqual([len(row) for row in totals], [5, 4])

    def test_infinite_means(self):
        graph = walk()
        solution = solve(graph)
        totals, evidence = means(graph, solution, "steps")
        self.assertEqual(totals, ((None, None, None, ZERO),))
        self.assertEqual([word for word, _ in evidence], ["level"])
        for index in range(3):
            self.assertEqual(expected(graph, solution, "steps", (0, index)), "infinite")
            self.assertEqual(expected(graph, solution, ("calls", 0), (0, index)), "infinite")
            self.assertEqual(expected(graph, solution, "reward", (0, index)), ("rational", (0, 1)))
        self.assertEqual(expected(graph, solution, "steps", (0, 3)), ("rational", (0, 1)))
        self.assertEqual(means(graph, solution, "reward"), (((ZERO,) * 4,), ()))

    def test_runs_that_end_surely_may_take_for_ever_on_average(self):
        graph = critical()
        self.assertEqual(expected(graph, solve(graph), "steps", (0, 0)), "infinite")
        self.assertEqual(expected(graph, solve(graph), ("calls", 0), (0, 1)), "infinite")

    def test_a_call_that_never_returns(self):
        graph = endless()
        solution = solve(graph)
        self.assertEqual(expected(graph, solution, "reward", (0, 0)), ("rational", (0, 1)))
        self.assertEqual(expected(graph, solution, ("calls", 1), (0, 0)), ("rational", (1, 1)))
        self.assertEqual(expected(graph, solution, ("calls", 1), (0, 3)), ("rational", (1, 2)))
        self.assertEqual(expected(graph, solution, "steps", (0, 0)), "infinite")
        self.assertEqual(expected(graph, solution, "steps", (0, 3)), "infinite")
        self.assertEqual(expected(graph, solution, "reward", (0, 1)), "infinite")
        # The loop of the procedure 1 counts for the steps, and so does the loop of the reward; 0 and 3 only use them.
        self.assertEqual([len(numbers) for _, numbers in means(graph, solution, "steps")[1]], [1, 2])
        self.assertEqual(means(graph, solution, "reward")[1], (("level", (ONE,)),))
        self.assertEqual(means(graph, solution, ("calls", 1))[1], ())

    def test_weights_that_are_added_up(self):
        # Both branches, and all exits of the call and the called procedure itself, lead to the same place.
        graph = Graph(procedures=(
            (1, (("draw", (((1, 4), 1), ((1, 4), 1), ((1, 2), 2))), ("call", 0, (0,)), ("exit", 0))),))
        solution = solve(graph)
        self.assertEqual(expected(graph, solution, "steps", (0, 0)), "infinite")
        self.assertIs(accepts_means(graph, solution, "steps", (((None, None, ZERO),), (("level", (ONE, element(2))),))), True)
        other = Graph(procedures=((0, (("call", 1, (1, 1)), ("reward", (1, 1), 2), ("stop",))), (2, (("draw", (((1, 2), 1), ((1, 2), 2))), ("exit", 0), ("exit", 1)))))
        self.assertEqual(expected(other, solve(other), "reward", (0, 0)), ("rational", (1, 1)))
        self.assertEqual(expected(other, solve(other), "steps", (0, 0)), ("rational", (4, 1)))

    def test_means_with_a_root(self):
        # A run from the place 0 makes m = 1 + (2 + x + m + x * (1 + x + m)) / 2 steps, with x = 1 - sqrt(2) / 2 in r = sqrt(2).
        graph = rooted()
        solution = solve(graph)
        found = expected(graph, solution, "steps", (0, 0))
        self.assertTrue(is_number(found))
        self.assertEqual(found[0], "root")
        x = 1 - 2 ** 0.5 / 2
        # From the call at 1: 1 + x + m + x * (from the call at 2), which is 1 + x + m.
        wanted = (1 + (1 + x + x * (1 + x)) / 2) / (1 - (1 + x) / 2)
        for more, side in ((-1e-9, 1), (1e-9, -1)):
            self.assertEqual(compare_numbers(found, ("rational", rational(Fraction(wanted + more)))), side)

    def test_right_answers_of_many_chains(self):
        words = set()
        for graph, solution in told():
            for what in WHATS:
                answer = means(graph, solution, what)
                self.assertIs(accepts_means(graph, solution, what, answer), True)
                words.update([word for word, _ in answer[1]])
                for place in graph.places():
                    total = answer[0][place[0]][place[1]]
                    found = expected(graph, solution, what, place)
                    self.assertEqual(found == "infinite", total is None)
        # The means of chains are never heavy: the chances never to end would not allow it.
        self.assertEqual(words, {"bounded", "level"})

    def test_against_a_literal_reading(self):
        for graph, solution in told():
            if solution[0] == 0:
                for what in WHATS + (("calls", len(graph.procedures) - 1),):
                    own, names = literal_system(graph, solution, what)
                    totals, evidence = means(graph, solution, what)
                    table = {place: totals[place[0]][place[1]] for place in graph.places()}
                    self.assertTrue(Reading(0, own, names).is_right(table, evidence))

    def test_the_solution_does_not_matter(self):
        for graph, solution in told():
            if solution[0] == 0:
                other = (7,) + solution[1:]
                for what in WHATS:
                    for place in graph.places()[:4]:
                        self.assertEqual(expected(graph, other, what, place), expected(graph, solution, what, place))


class JudgeTest(unittest.TestCase):
    def test_each_total(self):
        for graph, solution in ((counting_chain(), None), (walk(), None), (endless(), None), (straight(), None), (rooted(), None)):
            solution = solve(graph)
            for what in WHATS:
                totals, evidence = means(graph, solution, what)
                for number, row in enumerate(totals):
                    for index, total in enumerate(row):
                        for other in (None, ZERO, ONE, element(17), element(-1)):
                            changed = row[:index] + (other,) + row[index + 1:]
                            answer = (totals[:number] + (changed,) + totals[number + 1:], evidence)
                            self.assertIs(accepts_means(graph, solution, what, answer), other == total)

    def test_evidence(self):
        graph = endless()
        solution = solve(graph)
        totals, evidence = means(graph, solution, "steps")
        first, second = evidence
        self.assertIs(accepts_means(graph, solution, "steps", (totals, evidence)), True)
        for wrong in ((), (first,), (second,), (second, first), evidence + (first,), evidence + (second,), (first, first),
                      (("heavy",) + first[1:], second), (first, ("bounded",) + second[1:]), (first, ("level", (ZERO, ZERO))),
                      (first, ("level", (ONE, ZERO))), (("level", (ONE, ONE)), second), (("level", ()), second)):
            self.assertIs(accepts_means(graph, solution, "steps", (totals, wrong)), False, wrong)
        for number in (element(3), element(-2)):
            other = (first, ("level", (number, number)))
            self.assertIs(accepts_means(graph, solution, "steps", (totals, other)), True)
        totals, evidence = means(counting_chain(), solve(counting_chain()), "steps")
        for word, numbers in (("heavy", evidence[0][1]), ("level", evidence[0][1]), ("bounded", tuple(reversed(evidence[0][1]))),
                              ("bounded", (ONE,) * 3), ("level", (ZERO,) * 3), ("bounded", evidence[0][1] + (ONE,))):
            self.assertIs(accepts_means(counting_chain(), solve(counting_chain()), "steps", (totals, ((word, numbers),))), False)

    def test_infinite_where_it_is_not_shown(self):
        # With the evidence "level" all totals of the loop have to be None, and with "bounded" none of them.
        graph = counting_chain()
        totals, evidence = means(graph, solve(graph), "steps")
        nothing = tuple([tuple([None] * len(row)) for row in totals])
        self.assertIs(accepts_means(graph, solve(graph), "steps", (nothing, evidence)), False)

    def test_values_of_another_form(self):
        for graph in (counting_chain(), walk(), rooted()):
            solution = solve(graph)
            totals, evidence = means(graph, solution, "steps")
            row = totals[0]
            values = [[totals, evidence], (totals,), (totals, evidence, ()), (list(totals), evidence), (totals, list(evidence)),
                      (totals + (row,), evidence), (totals[:-1], evidence), (totals, None), (None, evidence), None]
            rows = [list(row), row + (ZERO,), row[:-1], None, 0, "infinite"]
            rows += [(item,) + row[1:] for item in ODD_VALUES + (0, (0, 1), ("rational", (0, 1)), "infinite", [(1, 1), (0, 1)], ((2, 2), (0, 1))) if item is not None]
            values += [((changed,) + totals[1:], evidence) for changed in rows]
            word, numbers = evidence[0]
            items = [[word, numbers], (word,), (word, numbers, 0), (word, list(numbers)), (word, numbers + (ONE,)), (word, numbers[:-1]),
                     ("", numbers), (None, numbers), (True, numbers), ([word], numbers), (word, None), word, None, (numbers, word)]
            items += [(word, (item,) + numbers[1:]) for item in ODD_VALUES + (0, (1, 1), [(1, 1), (0, 1)], ((1, 0), (0, 1)))]
            values += [(totals, (item,) + evidence[1:]) for item in items]
            for value in list(ODD_VALUES) + values:
                self.assertIs(accepts_means(graph, solution, "steps", value), False, value)

    def test_the_answer_for_another_question(self):
        graph = counting_chain()
        solution = solve(graph)
        for what in ("steps", "reward", ("calls", 1)):
            for other in ("steps", "reward", ("calls", 1)):
                self.assertIs(accepts_means(graph, solution, what, means(graph, solution, other)), what == other)


class DepthTest(unittest.TestCase):
    def test_the_walk(self):
        self.assertEqual([mean_at(walk(), "steps", (0, 0), depth) for depth in range(9)],
                         [rational(x) for x in averages(walk(), "steps", (0, 0), 8)])
        self.assertEqual(mean_at(walk(), "steps", (0, 0), 0), (0, 1))
        self.assertEqual(mean_at(walk(), "steps", (0, 0), 2), (5, 3))
        self.assertEqual(mean_at(walk(), ("calls", 0), (0, 0), 2), (2, 3))
        # Tails at the second place: a call, a draw and a return are three steps.
        self.assertEqual(mean_at(walk(), "steps", (0, 2), 3), (3, 1))

    def test_against_all_configurations(self):
        graphs = [walk(), chain_of_kinds(), straight(), counting_chain(), three_calls()]
        graphs += [random_chain(seed) for seed in range(25)] + [random_recursion(seed) for seed in range(25)]
        for graph in graphs:
            for what in WHATS + (("calls", len(graph.procedures) - 1),):
                for place in graph.places()[::2]:
                    wanted = averages(graph, what, place, 7)
                    for depth in (0, 1, 2, 3, 7):
                        self.assertEqual(mean_at(graph, what, place, depth), rational(wanted[depth]))

    def test_they_never_fall_and_never_exceed_the_mean(self):
        for graph, solution in told()[:24]:
            for what in WHATS:
                for place in graph.places()[:3]:
                    found = expected(graph, solution, what, place)
                    before = Fraction(0)
                    for depth in range(41):
                        now = fraction(mean_at(graph, what, place, depth))
                        self.assertGreaterEqual(now, before)
                        before = now
                    if found != "infinite":
                        self.assertLessEqual(compare_numbers(("rational", rational(before)), found), 0)

    def test_they_come_near_to_the_mean(self):
        graph = counting_chain()
        for what in ("reward", ("calls", 1)):
            mean = expected(graph, solve(graph), what, (0, 0))[1]
            self.assertGreater(fraction(mean_at(graph, what, (0, 0), 40)), fraction(mean) * Fraction(8, 10))
        graph = straight()
        mean = expected(graph, solve(graph), "steps", (1, 0))[1]
        self.assertGreater(fraction(mean_at(graph, "steps", (1, 0), 40)), fraction(mean) * (1 - Fraction(1, 10 ** 20)))

    def test_large_graphs(self):
        for graph in (greatest_chain(), tail_calls()):
            for what in WHATS:
                self.assertIsNotNone(mean_at(graph, what, (0, 0), 40))
        solution = solve(tail_calls())
        for what in WHATS:
            self.assertIs(accepts_means(tail_calls(), solution, what, means(tail_calls(), solution, what)), True)


class WrongArgumentsTest(unittest.TestCase):
    def calls(self, graph, solution, what, place):
        return [error_of(means, graph, solution, what), error_of(accepts_means, graph, solution, what, None),
                error_of(expected, graph, solution, what, place)]

    def test_graphs(self):
        for value in ODD_VALUES + (0, walk().procedures):
            self.assertEqual(self.calls(value, None, None, None), [("BadValue", "graph")] * 3)
            self.assertEqual(error_of(mean_at, value, None, None, None), ("BadValue", "graph"))

    def test_graphs_that_are_not_told(self):
        self.assertEqual(self.calls(all_kinds(), None, None, None), [("NotTold", ("choices",))] * 3)
        self.assertEqual(self.calls(three_calls(), None, None, None), [("NotTold", ("part", 1))] * 3)
        self.assertEqual(error_of(mean_at, all_kinds(), None, None, None), ("NotTold", ("choices",)))
        self.assertEqual(error_of(mean_at, three_calls(), None, None, None), ("BadValue", "what"))
        self.assertIsNone(error_of(mean_at, three_calls(), "steps", (0, 0), 3))

    def test_solutions(self):
        for value in ODD_VALUES + (solve(rooted()),):
            self.assertEqual(self.calls(walk(), value, None, None), [("BadValue", "solution")] * 3)

    def test_what(self):
        solution = solve(walk())
        for value in ODD_VALUES + (0, "calls", "rewards", "step", ("calls",), ("calls", 1), ("calls", -1), ("calls", True), ("calls", None),
                                   ["calls", 0], ("calls", 0, 0), ("steps", 0), ("reward",), (("calls", 0),)):
            self.assertEqual(self.calls(walk(), solution, value, None), [("BadValue", "what")] * 3, value)
            self.assertEqual(error_of(mean_at, walk(), value, None, None), ("BadValue", "what"), value)
        graph = Graph(procedures=(twice(0, (1, 4), (1, 2)), (0, (("stop",),))))
        self.assertIsNone(error_of(mean_at, graph, ("calls", 1), (0, 0), 0))
        self.assertEqual(error_of(mean_at, graph, ("calls", 2), (0, 0), 0), ("BadValue", "what"))

    def test_places_and_depths(self):
        solution = solve(walk())
        for value in ODD_VALUES + (0, (0, 4), (1, 0), (0, -1), (0, True), [0, 0]):
            self.assertEqual(error_of(expected, walk(), solution, "steps", value), ("BadValue", "place"), value)
            self.assertEqual(error_of(mean_at, walk(), "steps", value, None), ("BadValue", "place"), value)
        for value in ODD_VALUES + (-1, 41, (0,), "0"):
            self.assertEqual(error_of(mean_at, walk(), "steps", (0, 0), value), ("BadValue", "depth"), value)


class ArgumentsTest(unittest.TestCase):
    def test_equal_calls_have_equal_answers(self):
        dice = random.Random(0)
        for graph, solution in dice.sample(told(), 10):
            for what in WHATS:
                self.assertEqual(means(graph, solution, what), means(Graph(procedures=graph.procedures), solution, what))


if __name__ == "__main__":
    unittest.main()
