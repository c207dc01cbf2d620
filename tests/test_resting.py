"""Points 111 to 115, and oddscall/resting.py."""

import random
import unittest
from fractions import Fraction
from math import gcd

from oddscall.chances import chance
from oddscall.equations import live_terms, positives, unknowns
from oddscall.errors import NotTold, TooLarge
from oddscall.fields import NOUGHT, UNIT
from oddscall.graphs import Graph
from oddscall.numbers import element_of, number_of
from oddscall.resting import accepts_uses, branch_uses, rests_on, slope_of, uses
from oddscall.solving import solve
from tests.helpers import ODD_VALUES, error_of, fraction, rational
from tests.samples import all_kinds, chain_of_kinds, greatest_chain, random_chain, steps_from, walk, way_of_end
from tests.told import (
    Root, critical, looped_before_the_call, random_recursion, root, rooted, sharp, straight, tail_calls, three_calls, two_roots, value_at,
    with_inner_loop, with_solutions)
from tests.weighted import Reading, element

ZERO = ("rational", (0, 1))


def draws_of(graph):
    """Return the list of the places of draws."""
    return [place for place in graph.places() if graph.point_at(place)[0] == "draw"]


def forward(seed):
    """Return a random chain in which all runs end soon: points name later points, and procedures call later ones."""
    dice = random.Random(seed)
    exits = (2, 1, 2)
    procedures = []
    for number, size in enumerate((6, 5, 4)):
        points = []
        for index in range(size - exits[number]):
            word = dice.choice(("draw", "draw", "draw", "call", "reward", "stop", "reject")) if index > 0 else "draw"
            if word == "call" and number == 2:
                word = "draw"
            called = dice.randrange(min(number + 1, 2), 3)
            cut = dice.randrange(1, 8)
            low = index + 1
            points.append({
                "draw": ("draw", ((rational(Fraction(cut, 8)), dice.randrange(low, size)), (rational(Fraction(8 - cut, 8)), dice.randrange(low, size)))),
                "call": ("call", called, tuple([dice.randrange(low, size) for _ in range(exits[called])])),
                "reward": ("reward", (1, 1), dice.randrange(low, size)),
                "stop": ("stop",),
                "reject": ("reject",),
            }[word])
        procedures.append((exits[number], tuple(points + [("exit", result) for result in range(exits[number])])))
    return Graph(procedures=tuple(procedures))


def counted_runs(graph, place, draw, depth):
    """Return a dict with the total of chance times steps by each branch of the draw, for each way, of runs of some steps.

    Runs are followed side by side: those with the same configuration and the same numbers of steps are one.
    """
    many = len(graph.point_at(draw)[1])
    found = {way: [Fraction(0)] * many for way in graph.ways(place)}
    seen = set()
    now = {((place,), (0,) * many): Fraction(1)}
    for _ in range(depth + 1):
        after = {}
        for (stack, counts), weight in now.items():
            way = way_of_end(graph, place, stack)
            if way is not None:
                found[way] = [total + weight * count for total, count in zip(found[way], counts)]
                seen.update([(way, branch) for branch, count in enumerate(counts) if count])
                continue
            for branch, (one, other) in enumerate(steps_from(graph, stack)):
                more = counts
                if stack[-1] == draw:
                    more = counts[:branch] + (counts[branch] + 1,) + counts[branch + 1:]
                after[other, more] = after.get((other, more), 0) + weight * one
        now = after
    return (found, seen)


def chains():
    """Return sample chains."""
    return [walk(), chain_of_kinds(), straight(), rooted(), critical(), with_inner_loop(), looped_before_the_call(), three_calls()]


def told():
    """Return told chains with their solutions."""
    graphs = [walk(), straight(), rooted(), critical(), with_inner_loop(), looped_before_the_call(), loop_to_an_exit()]
    return with_solutions(graphs + [random_recursion(seed) for seed in range(50)] + [random_chain(seed) for seed in range(10)])


def loop_to_an_exit():
    """Return a chain with a loop, a draw behind it, and a branch from which no run finishes."""
    points = (
        ("draw", (((1, 2), 0), ((1, 4), 1), ((1, 4), 2))), ("draw", (((1, 3), 3), ((2, 3), 4))), ("draw", (((1, 1), 2),)), ("exit", 0),
        ("stop",))
    return Graph(procedures=((1, points),))


def literal_system(graph, solution, draw, branch):
    """Return the system of point 113 with the positive unknowns as nodes, read word by word."""
    field, values, _ = solution
    own, names = {}, {}
    for unknown, terms in live_terms(graph):
        weights = {}
        for one, factors in terms:
            for at, factor in enumerate(factors):
                product = Root(field, Fraction(*one))
                for other, rest in enumerate(factors):
                    if other != at:
                        product = product * root(field, value_at(values, rest))
                weights[factor] = weights.get(factor, Root(field, 0)) + product
        names[unknown] = {factor: weight.element() for factor, weight in weights.items()}
        own[unknown] = NOUGHT
        if unknown[:2] == draw:
            one, target = graph.point_at(draw)[1][branch]
            behind = root(field, value_at(values, (draw[0], target, unknown[2])))
            own[unknown] = (Root(field, Fraction(*one)) * behind).element()
    return (own, names)


class RestsTest(unittest.TestCase):
    def test_a_loop(self):
        graph = loop_to_an_exit()
        self.assertEqual(rests_on(graph, (0, 0, 0)), [(0, 0), (0, 1)])
        self.assertEqual(rests_on(graph, (0, 0, 2)), [(0, 0), (0, 1)])
        self.assertEqual(rests_on(graph, (0, 1, 0)), [(0, 1)])
        self.assertEqual(rests_on(graph, (0, 3, 0)), [])
        # The draw 2 is reached, but no run that comes there ends.
        self.assertEqual([rests_on(graph, (0, index, way)) for index, way in ((0, 1), (2, 0), (3, 1))], [[], [], []])

    def test_other_ways_may_rest_on_other_draws(self):
        points = (("draw", (((1, 2), 1), ((1, 2), 2))), ("draw", (((1, 2), 3), ((1, 2), 0))), ("draw", (((1, 3), 4), ((2, 3), 5))), ("exit", 0),
                  ("stop",), ("reject",))
        graph = Graph(procedures=((1, points),))
        self.assertEqual([rests_on(graph, (0, 0, way)) for way in range(3)], [[(0, 0), (0, 1)]] + [[(0, 0), (0, 1), (0, 2)]] * 2)

    def test_called_procedures(self):
        graph = two_roots(((1, 4), (1, 2)), ((1, 3), (1, 2)))
        points = (("call", 1, (1,)), ("draw", (((1, 1), 2),)), ("exit", 0))
        graph = Graph(procedures=((1, points),) + (graph.procedures[1],))
        self.assertEqual(rests_on(graph, (0, 0, 0)), [(0, 1), (1, 0)])
        self.assertEqual(rests_on(graph, (0, 0, 2)), [(1, 0)])

    def test_chains_that_are_not_told(self):
        self.assertEqual(rests_on(three_calls(), (0, 0, 0)), [(0, 0)])
        self.assertEqual(rests_on(greatest_chain(), (0, 0, 0)), draws_of(greatest_chain()))

    def test_against_runs(self):
        for seed in range(40):
            graph = forward(seed)
            for place in graph.places():
                for way in graph.ways(place):
                    wanted = []
                    for draw in draws_of(graph):
                        _, seen = counted_runs(graph, place, draw, 60)
                        if any([(way, branch) in seen for branch in range(2)]):
                            wanted.append(draw)
                    self.assertEqual(rests_on(graph, place + (way,)), wanted)

    def test_other_chances_elsewhere_do_not_matter(self):
        dice = random.Random(4)
        checked = 0
        for graph, solution in told():
            draws = draws_of(graph)
            if draws == []:
                continue
            draw = dice.choice(draws)
            other = self.changed(graph, draw)
            try:
                found = solve(other)
            except (NotTold, TooLarge):
                continue
            for unknown in positives(graph):
                if draw not in rests_on(graph, unknown):
                    place, way = unknown[:2], unknown[2]
                    self.assertEqual(chance(other, found, place, way), chance(graph, solution, place, way))
                    checked += 1
        self.assertGreater(checked, 50)

    def changed(self, graph, draw):
        """Return the graph with other chances at a draw."""
        branches = graph.point_at(draw)[1]
        whole = sum(range(1, len(branches) + 1))
        row = [((at + 1) // gcd(at + 1, whole), whole // gcd(at + 1, whole)) for at in range(len(branches))]
        point = ("draw", tuple([(one, target) for one, (_, target) in zip(row, branches)]))
        procedures = []
        for number, (exits, points) in enumerate(graph.procedures):
            if number == draw[0]:
                points = points[:draw[1]] + (point,) + points[draw[1] + 1:]
            procedures.append((exits, points))
        return Graph(procedures=tuple(procedures))


class UsesTest(unittest.TestCase):
    def test_a_loop(self):
        graph = loop_to_an_exit()
        solution = solve(graph)
        # The exit has the chance 1/6; a run that comes there has gone round once on average.
        self.assertEqual(uses(graph, solution, (0, 0, 0), (0, 0)), [("rational", (1, 6)), ("rational", (1, 6)), ZERO])
        self.assertEqual(uses(graph, solution, (0, 0, 0), (0, 1)), [("rational", (1, 6)), ZERO])
        self.assertEqual(uses(graph, solution, (0, 0, 2), (0, 1)), [ZERO, ("rational", (1, 3))])
        # Just one run round and round comes to no end at all.
        self.assertEqual(uses(graph, solution, (0, 2, 0), (0, 2)), [ZERO])
        self.assertEqual(uses(graph, solution, (0, 0, 1), (0, 0)), [ZERO] * 3)

    def test_roots(self):
        # x = a + c * x * x with a = 1/4 and c = 1/2 grows by 1 / (1 - 2 * c * x) with a, and by x * x as much with c.
        graph = rooted()
        solution = solve(graph)
        x = Fraction(1), Fraction(-1, 2)
        found = uses(graph, solution, (0, 0, 0), (0, 0))
        self.assertEqual(found[0], number_of(2, element(0, Fraction(1, 4))))
        square = Root(2, *x) * Root(2, *x)
        self.assertEqual(found[1], number_of(2, (square * Root(2, 0, Fraction(1, 2))).element()))
        self.assertEqual(found[2], ZERO)
        slope = (square * Root(2, 0, 1) + Root(2, 0, -1)).element()
        self.assertEqual(slope_of(graph, solution, (0, 0, 0), (0, 0), 0, 1), number_of(2, slope))
        self.assertEqual(slope_of(graph, solution, (0, 0, 0), (0, 0), 0, 2), number_of(2, element(0, -1)))

    def test_infinite_uses(self):
        graph = critical()
        solution = solve(graph)
        self.assertEqual(uses(graph, solution, (0, 0, 0), (0, 0)), ["infinite", "infinite"])
        self.assertEqual(uses(graph, solution, (0, 3, 0), (0, 0)), [ZERO, ZERO])
        self.assertIsNone(slope_of(graph, solution, (0, 0, 0), (0, 0), 0, 1))
        self.assertIsNone(slope_of(graph, solution, (0, 2, 0), (0, 0), 1, 0))
        self.assertEqual(slope_of(graph, solution, (0, 3, 0), (0, 0), 1, 0), ZERO)
        totals, evidence = branch_uses(graph, solution, (0, 0), 0)
        self.assertEqual(totals, (None, None, None, NOUGHT, NOUGHT))
        self.assertEqual([word for word, _ in evidence], ["level"])

    def test_unknowns_that_are_not_positive(self):
        for graph, solution in told()[:20]:
            for draw in draws_of(graph)[:2]:
                many = len(graph.point_at(draw)[1])
                for unknown in sorted(set(unknowns(graph)) - set(positives(graph)))[:6]:
                    self.assertEqual(uses(graph, solution, unknown, draw), [ZERO] * many)
                    if many > 1:
                        self.assertEqual(slope_of(graph, solution, unknown, draw, 0, 1), ZERO)

    def test_against_all_runs(self):
        for seed in range(14):
            graph = forward(seed)
            solution = solve(graph)
            for draw in draws_of(graph):
                for place in graph.places()[::3]:
                    wanted, _ = counted_runs(graph, place, draw, 60)
                    for way in graph.ways(place):
                        found = uses(graph, solution, place + (way,), draw)
                        self.assertEqual(found, [("rational", rational(total)) for total in wanted[way]])
                        rows = [total / fraction(one) for total, (one, _) in zip(wanted[way], graph.point_at(draw)[1])]
                        self.assertEqual(slope_of(graph, solution, place + (way,), draw, 0, 1), ("rational", rational(rows[1] - rows[0])))

    def test_runs_come_near(self):
        for graph, start in ((straight(), (1, 0)), (loop_to_an_exit(), (0, 0)), (rooted((1, 2), (1, 12)), (0, 0))):
            solution = solve(graph)
            field = solution[0]
            for draw in draws_of(graph):
                wanted, _ = counted_runs(graph, start, draw, 24)
                for way in graph.ways(start):
                    for branch, number in enumerate(uses(graph, solution, start + (way,), draw)):
                        totals = branch_uses(graph, solution, draw, branch)[0]
                        total = dict(zip(positives(graph), totals)).get(start + (way,), NOUGHT)
                        self.assertEqual(number, number_of(field, total))
                        self.assertLessEqual(wanted[way][branch], sharp(field, total) + Fraction(1, 10 ** 40))
                        self.assertLess(sharp(field, total) - wanted[way][branch], Fraction(1, 100))

    def test_the_slope_is_how_fast_the_chance_grows(self):
        # A little of the chance 1/4 is moved to 1/2 in x = 1/4 + x * x / 2 and in another chain, both ways.
        def half(low, high):
            return Graph(procedures=((1, (("draw", (((1, 6), 3), (low, 1), (high, 4))), ("call", 0, (2,)), ("call", 0, (3,)), ("exit", 0), ("stop",))),))

        graph = half((1, 2), (1, 3))
        solution = solve(graph)
        slope = sharp(*element_of(slope_of(graph, solution, (0, 0, 0), (0, 0), 2, 1)))
        before, after = [sharp(one[0], one[1][0][0][0]) for one in (solve(half((29, 60), (7, 20))), solve(half((31, 60), (19, 60))))]
        self.assertAlmostEqual(float(slope), float((after - before) * 30), places=3)

    def test_uses_are_as_branch_uses_tells(self):
        for graph, solution in told()[:30]:
            for draw in draws_of(graph)[:3]:
                rows = [branch_uses(graph, solution, draw, branch)[0] for branch in range(len(graph.point_at(draw)[1]))]
                for at, unknown in enumerate(positives(graph)):
                    wanted = ["infinite" if row[at] is None else number_of(solution[0], row[at]) for row in rows]
                    self.assertEqual(uses(graph, solution, unknown, draw), wanted)

    def test_the_greatest_chains(self):
        graph = tail_calls()
        solution = solve(graph)
        for draw in draws_of(graph)[:3]:
            answer = branch_uses(graph, solution, draw, 1)
            self.assertIs(accepts_uses(graph, solution, draw, 1, answer), True)
            self.assertEqual(len(uses(graph, solution, (0, 0, 0), draw)), len(graph.point_at(draw)[1]))

    def test_new_lists(self):
        graph = rooted()
        solution = solve(graph)
        wanted = uses(graph, solution, (0, 0, 0), (0, 0))
        uses(graph, solution, (0, 0, 0), (0, 0)).clear()
        self.assertEqual(uses(graph, solution, (0, 0, 0), (0, 0)), wanted)
        rests_on(graph, (0, 0, 0)).clear()
        self.assertEqual(rests_on(graph, (0, 0, 0)), [(0, 0)])


class JudgeTest(unittest.TestCase):
    def test_answers_are_right(self):
        words = set()
        for graph, solution in told():
            for draw in draws_of(graph)[:2]:
                own, names = literal_system(graph, solution, draw, 0)
                totals, evidence = branch_uses(graph, solution, draw, 0)
                self.assertEqual(len(totals), len(positives(graph)))
                self.assertTrue(Reading(solution[0], own, names).is_right(dict(zip(positives(graph), totals)), evidence))
                self.assertIs(accepts_uses(graph, solution, draw, 0, (totals, evidence)), True)
                words |= {word for word, _ in evidence}
        self.assertEqual(words, {"bounded", "level"})

    def test_each_total(self):
        for graph in (loop_to_an_exit(), critical(), rooted(), with_inner_loop()):
            solution = solve(graph)
            for draw in draws_of(graph):
                totals, evidence = branch_uses(graph, solution, draw, 0)
                for at, total in enumerate(totals):
                    for other in (None, NOUGHT, UNIT, element(-1), element(Fraction(1, 6))):
                        answer = (totals[:at] + (other,) + totals[at + 1:], evidence)
                        self.assertIs(accepts_uses(graph, solution, draw, 0, answer), other == total)

    def test_evidence(self):
        graph = critical()
        solution = solve(graph)
        totals, evidence = branch_uses(graph, solution, (0, 0), 0)
        _, numbers = evidence[0]
        double = tuple([element(2 * Fraction(*number[0])) for number in numbers])
        self.assertIs(accepts_uses(graph, solution, (0, 0), 0, (totals, (("level", double),))), True)
        for wrong in ((), evidence + evidence, (("bounded", numbers),), (("heavy", numbers),), (("level", (NOUGHT,) * 3),), (("level", (UNIT, NOUGHT, NOUGHT)),)):
            self.assertIs(accepts_uses(graph, solution, (0, 0), 0, (totals, wrong)), False, wrong)
        graph = loop_to_an_exit()
        solution = solve(graph)
        totals, evidence = branch_uses(graph, solution, (0, 1), 1)
        self.assertEqual([word for word, _ in evidence], ["bounded"])
        for wrong in ((), (("bounded", (UNIT,)),), (("heavy", evidence[0][1]),), (("level", evidence[0][1]),), evidence + evidence):
            self.assertIs(accepts_uses(graph, solution, (0, 1), 1, (totals, wrong)), False, wrong)

    def test_random_answers(self):
        dice = random.Random(2)
        right = 0
        for graph, solution in told()[:40]:
            for draw in draws_of(graph)[:2]:
                own, names = literal_system(graph, solution, draw, 0)
                reading = Reading(solution[0], own, names)
                totals, evidence = branch_uses(graph, solution, draw, 0)
                for _ in range(4):
                    kept, shown = list(totals), list(evidence)
                    if kept and dice.random() < 0.5:
                        kept[dice.randrange(len(kept))] = dice.choice((None, NOUGHT, UNIT))
                    if shown and dice.random() < 0.5:
                        at = dice.randrange(len(shown))
                        shown[at] = (dice.choice(("bounded", "heavy", "level")), shown[at][1])
                    wanted = reading.is_right(dict(zip(positives(graph), kept)), tuple(shown))
                    self.assertIs(accepts_uses(graph, solution, draw, 0, (tuple(kept), tuple(shown))), wanted)
                    right += wanted
        self.assertGreater(right, 30)

    def test_the_answer_for_another_branch(self):
        graph = loop_to_an_exit()
        solution = solve(graph)
        for one in range(3):
            for other in range(3):
                answer = branch_uses(graph, solution, (0, 0), other)
                same = branch_uses(graph, solution, (0, 0), one) == answer
                self.assertIs(accepts_uses(graph, solution, (0, 0), one, answer), same)

    def test_values_of_another_form(self):
        for graph in (loop_to_an_exit(), critical(), rooted()):
            solution = solve(graph)
            totals, evidence = branch_uses(graph, solution, (0, 0), 0)
            values = [[totals, evidence], (totals,), (totals, evidence, ()), (list(totals), evidence), (totals, list(evidence)),
                      (totals + (NOUGHT,), evidence), (totals[:-1], evidence), (totals, None), (None, evidence), None, (evidence, totals)]
            for item in ODD_VALUES + (0, (0, 1), ("rational", (0, 1)), "infinite", [(1, 1), (0, 1)], ((2, 2), (0, 1)), ((1, 1), 0)):
                if item is not None:
                    values.append(((item,) + totals[1:], evidence))
                values.append((totals, (item,) + evidence[1:]))
                values.append((totals, ((item, evidence[0][1]),) + evidence[1:]))
                values.append((totals, ((evidence[0][0], item),) + evidence[1:]))
                values.append((totals, ((evidence[0][0], (item,) + evidence[0][1][1:]),) + evidence[1:]))
            for value in list(ODD_VALUES) + values:
                self.assertIs(accepts_uses(graph, solution, (0, 0), 0, value), False, value)


class WrongArgumentsTest(unittest.TestCase):
    def errors(self, graph, solution, unknown=None, draw=None, branch=None, second=None):
        return [error_of(branch_uses, graph, solution, draw, branch), error_of(accepts_uses, graph, solution, draw, branch, None),
                error_of(uses, graph, solution, unknown, draw), error_of(slope_of, graph, solution, unknown, draw, branch, second)]

    def test_graphs(self):
        for value in ODD_VALUES + (0, walk().procedures):
            self.assertEqual(self.errors(value, None), [("BadValue", "graph")] * 4, value)
            self.assertEqual(error_of(rests_on, value, None), ("BadValue", "graph"), value)

    def test_graphs_that_are_not_told(self):
        self.assertEqual(self.errors(all_kinds(), None), [("NotTold", ("choices",))] * 4)
        self.assertEqual(error_of(rests_on, all_kinds(), None), ("NotTold", ("choices",)))
        self.assertEqual(self.errors(three_calls(), None), [("NotTold", ("part", 1))] * 4)
        self.assertEqual(error_of(rests_on, three_calls(), None), ("BadValue", "unknown"))

    def test_solutions(self):
        for value in ODD_VALUES + (solve(rooted()),):
            self.assertEqual(self.errors(walk(), value), [("BadValue", "solution")] * 4, value)

    def test_unknowns(self):
        solution = solve(walk())
        for value in ODD_VALUES + (0, (0, 0), (0, 0, 3), (0, 4, 0), (1, 0, 0), (0, 0, -1), (0, 0, True), [0, 0, 0], (0, 0, 0, 0)):
            self.assertEqual(self.errors(walk(), solution, value)[2:], [("BadValue", "unknown")] * 2, value)
            self.assertEqual(error_of(rests_on, walk(), value), ("BadValue", "unknown"), value)

    def test_draws(self):
        solution = solve(walk())
        for value in ODD_VALUES + (0, (0, 1), (0, 3), (0, 4), (1, 0), (0, -1), (0, True), (0, False), [0, 0], (0, 0, 0)):
            self.assertEqual(self.errors(walk(), solution, (0, 0, 0), value), [("BadValue", "draw")] * 4, value)

    def test_branches(self):
        solution = solve(walk())
        for value in ODD_VALUES + (-1, 2, (0,)):
            found = self.errors(walk(), solution, (0, 0, 0), (0, 0), value, value)
            self.assertEqual(found, [("BadValue", "branch")] * 2 + [None, ("BadValue", "first")], value)
            self.assertEqual(error_of(slope_of, walk(), solution, (0, 0, 0), (0, 0), 0, value), ("BadValue", "second"), value)
        for branch in range(2):
            self.assertEqual(error_of(slope_of, walk(), solution, (0, 0, 0), (0, 0), branch, branch), ("BadValue", "second"))


if __name__ == "__main__":
    unittest.main()
