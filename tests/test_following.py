"""Points 32 to 35 and 40, and oddscall/following.py."""

import random
import unittest
from fractions import Fraction

from oddscall.following import follow
from oddscall.graphs import Graph
from tests.helpers import ODD_VALUES, error_of, rational
from tests.samples import all_kinds, chain_of_kinds, random_chain, walk

ONE, ZERO = (1, 1), (0, 1)


def graph_of(*points, exits=1):
    """Return a graph of one procedure with these points."""
    return Graph(procedures=((exits, points),))


class EndsTest(unittest.TestCase):
    def test_ends_at_once(self):
        graph = graph_of(("exit", 1), ("reject",), ("stop",), exits=2)
        self.assertEqual(follow(graph, (0, 0), ()), ("finished", 1, 0, 0, ONE, ZERO, ()))
        self.assertEqual(follow(graph, (0, 1), ()), ("rejected", None, 0, 0, ONE, ZERO, ()))
        self.assertEqual(follow(graph, (0, 2), ()), ("stopped", None, 0, 0, ONE, ZERO, ()))
        self.assertEqual(follow(graph, (0, 0), (3, 3)), ("finished", 1, 0, 0, ONE, ZERO, ()))

    def test_a_run_that_ends_within_a_call(self):
        for word, state in (("reject", "rejected"), ("stop", "stopped")):
            graph = Graph(procedures=((1, (("call", 1, (1,)), ("exit", 0))), (1, (("call", 2, (0,)), ("exit", 0))), (1, ((word,),))))
            self.assertEqual(follow(graph, (0, 0), ()), (state, None, 2, 0, ONE, ZERO, ()))
            self.assertEqual(follow(graph, (1, 0), ()), (state, None, 1, 0, ONE, ZERO, ()))

    def test_an_exit_with_a_call_below_is_a_step(self):
        graph = Graph(procedures=((2, (("call", 1, (2, 1)), ("exit", 1), ("reject",))), (2, (("exit", 1), ("exit", 0)))))
        self.assertEqual(follow(graph, (0, 0), ()), ("finished", 1, 2, 0, ONE, ZERO, ()))
        self.assertEqual(follow(graph, (1, 1), ()), ("finished", 0, 0, 0, ONE, ZERO, ()))

    def test_the_exit_is_that_of_the_procedure_where_the_run_began(self):
        graph = Graph(procedures=((3, (("call", 1, (2, 1)), ("exit", 2), ("exit", 0))), (2, (("exit", 0),))))
        self.assertEqual(follow(graph, (0, 0), ())[:3], ("finished", 0, 2))


class StepsTest(unittest.TestCase):
    def test_calls_within_calls(self):
        self.assertEqual(follow(walk(), (0, 0), ()), ("waiting", None, 0, 0, ONE, ZERO, ((0, 0),)))
        self.assertEqual(follow(walk(), (0, 0), (0,)), ("waiting", None, 2, 1, (2, 3), ZERO, ((0, 1), (0, 0))))
        self.assertEqual(follow(walk(), (0, 0), (0, 0, 0)), (
            "waiting", None, 6, 3, (8, 27), ZERO, ((0, 1), (0, 1), (0, 1), (0, 0))))
        self.assertEqual(follow(walk(), (0, 0), (0, 0, 1)), (
            "waiting", None, 7, 3, (4, 27), ZERO, ((0, 1), (0, 2), (0, 0))))
        self.assertEqual(follow(walk(), (0, 0), (0, 0, 1, 1, 1)), ("finished", 0, 13, 5, (4, 243), ZERO, ()))

    def test_draws_take_branches_and_choices_take_points(self):
        graph = all_kinds()
        self.assertEqual(follow(graph, (0, 0), (0, 1)), ("waiting", None, 3, 2, (1, 2), (3, 4), ((0, 0),)))
        self.assertEqual(follow(graph, (0, 0), (0, 0)), ("rejected", None, 2, 2, (1, 2), ZERO, ()))
        self.assertEqual(follow(graph, (0, 0), (0, 2, 0, 3, 0, 0)), ("rejected", None, 7, 6, (1, 8), (3, 4), ()))

    def test_two_branches_to_the_same_point(self):
        graph = graph_of(("draw", (((1, 2), 1), ((1, 3), 1), ((1, 6), 1))), ("exit", 0))
        for item, chance in enumerate(((1, 2), (1, 3), (1, 6))):
            self.assertEqual(follow(graph, (0, 0), (item,)), ("finished", 0, 1, 1, chance, ZERO, ()))

    def test_a_single_branch_uses_an_item(self):
        graph = graph_of(("draw", (((1, 1), 1),)), ("choose", (2,)), ("exit", 0))
        self.assertEqual(follow(graph, (0, 0), ())[:4], ("waiting", None, 0, 0))
        self.assertEqual(follow(graph, (0, 0), (0,)), ("waiting", None, 1, 1, ONE, ZERO, ((0, 1),)))
        self.assertEqual(follow(graph, (0, 0), (0, 0)), ("finished", 0, 2, 2, ONE, ZERO, ()))

    def test_choices_do_not_count_as_chances(self):
        graph = graph_of(("choose", (0, 1, 2)), ("exit", 0), ("stop",))
        self.assertEqual(follow(graph, (0, 0), (0, 0, 2)), ("stopped", None, 3, 3, ONE, ZERO, ()))

    def test_rewards(self):
        graph = graph_of(("reward", (1, 2), 1), ("reward", (3, 4), 2), ("draw", (((1, 2), 0), ((1, 2), 3))), ("exit", 0))
        self.assertEqual(follow(graph, (0, 0), (1,)), ("finished", 0, 3, 1, (1, 2), (5, 4), ()))
        self.assertEqual(follow(graph, (0, 1), (0, 1)), ("finished", 0, 5, 2, (1, 4), (2, 1), ()))
        self.assertEqual(follow(graph, (0, 2), (1,))[5], ZERO)

    def test_rewards_within_calls_count(self):
        graph = Graph(procedures=((0, (("reward", (1, 3), 1), ("call", 1, ()))), (0, (("reward", (1, 6), 1), ("stop",)))))
        self.assertEqual(follow(graph, (0, 0), ()), ("stopped", None, 3, 0, ONE, (1, 2), ()))

    def test_the_tape_is_used_wholly_or_in_part(self):
        self.assertEqual(follow(walk(), (0, 0), (1, 3, 2, 0)), ("finished", 0, 1, 1, (1, 3), ZERO, ()))
        self.assertEqual(follow(walk(), (0, 0), (0, 1, 1, 0, 0)), ("finished", 0, 7, 3, (2, 27), ZERO, ()))

    def test_a_run_may_begin_anywhere(self):
        self.assertEqual(follow(walk(), (0, 2), (1,)), ("finished", 0, 3, 1, (1, 3), ZERO, ()))
        self.assertEqual(follow(walk(), (0, 1), ()), ("waiting", None, 1, 0, ONE, ZERO, ((0, 1), (0, 0))))


class LimitTest(unittest.TestCase):
    def test_a_run_that_makes_400_steps(self):
        graph = graph_of(("reward", (1, 2), 0))
        self.assertEqual(follow(graph, (0, 0), ()), ("running", None, 400, 0, ONE, (200, 1), ((0, 0),)))
        self.assertEqual(follow(graph, (0, 0), (1, 2, 3)), ("running", None, 400, 0, ONE, (200, 1), ((0, 0),)))

    def test_a_procedure_that_calls_itself_for_ever(self):
        graph = graph_of(("call", 0, (0,)))
        self.assertEqual(follow(graph, (0, 0), ()), ("running", None, 400, 0, ONE, ZERO, ((0, 0),) * 401))

    def circle(self, size, last):
        """Return a graph whose draw is passed first and then after each size steps, and may lead to this last point."""
        points = [("draw", (((1, 2), 1), ((1, 2), size)))]
        points.extend([("reward", (0, 1), (index + 1) % size) for index in range(1, size)])
        return graph_of(*points, last)

    def test_what_stands_after_400_steps(self):
        # Every 8th step is a draw: 50 of them are made, and step 401 would be the next one.
        graph = self.circle(8, ("exit", 0))
        told = follow(graph, (0, 0), (0,) * 50)
        self.assertEqual(told[:4] + told[6:], ("waiting", None, 400, 50, ((0, 0),)))
        self.assertEqual(told[4], rational(Fraction(1, 2) ** 50))
        told = follow(graph, (0, 0), (0,) * 51)
        self.assertEqual(told[:4] + told[6:], ("running", None, 400, 50, ((0, 0),)))
        told = follow(graph, (0, 0), (0,) * 49)
        self.assertEqual(told[:4] + told[6:], ("waiting", None, 392, 49, ((0, 0),)))

    def test_an_end_at_step_400_counts(self):
        # From the place 1 it takes 7 steps to the draw, and 8 for each further one.
        for word, state in (("exit", "finished"), ("stop", "stopped"), ("reject", "rejected")):
            last = ("exit", 0) if word == "exit" else (word,)
            told = follow(self.circle(8, last), (0, 1), (0,) * 49 + (1,))
            self.assertEqual(told[:4] + told[6:], (state, 0 if word == "exit" else None, 400, 50, ()))
            told = follow(self.circle(8, last), (0, 0), (0,) * 50 + (1,))
            self.assertEqual(told[:4] + told[6:], ("running", None, 400, 50, ((0, 0),)))

    def test_an_item_behind_step_400_is_not_come_to(self):
        told = follow(self.circle(8, ("exit", 0)), (0, 0), (0,) * 50 + (3,))
        self.assertEqual(told[:4], ("running", None, 400, 50))

    def test_a_tape_of_60_items(self):
        told = follow(graph_of(("draw", (((1, 60), 0), ((59, 60), 0)))), (0, 0), (0, 1) * 30)
        self.assertEqual(told[:4] + told[5:], ("waiting", None, 60, 60, ZERO, ((0, 0),)))
        self.assertEqual(told[4], rational(Fraction(59, 3600) ** 30))


class WrongArgumentsTest(unittest.TestCase):
    def wrong(self, graph, place, tape, name):
        self.assertEqual(error_of(follow, graph, place, tape), ("BadValue", name), (place, tape))

    def test_graphs(self):
        for value in ODD_VALUES + (0, walk().procedures):
            self.wrong(value, (0, 0), (), "graph")

    def test_places(self):
        for value in ODD_VALUES + (0, (0, 4), (1, 0), (0, -1), (False, 0), (0, True), [0, 0], (0, 0, 0)):
            self.wrong(walk(), value, (), "place")

    def test_tapes(self):
        for value in ODD_VALUES + (0, [0], "0", (True,), (0, False), (4,), (-1,), (0, 4), (0, -1), (None,), ("0",), ((0,),),
                                   (0,) * 61, (0, 1, 1) + (True,), (1, 4)):
            if value != ():
                self.wrong(walk(), (0, 0), value, "tape")
                self.wrong(walk(), (0, 3), value, "tape")
        self.assertIsNone(error_of(follow, walk(), (0, 0), (0,) * 60))
        self.assertIsNone(error_of(follow, walk(), (0, 3), (3,) * 60))

    def test_an_item_that_the_run_comes_to(self):
        for tape in ((2,), (3,), (0, 2), (0, 1, 3)):
            self.wrong(walk(), (0, 0), tape, "tape")
        choices = graph_of(("choose", (0, 1)), ("draw", (((1, 3), 0), ((1, 3), 1), ((1, 3), 2))), ("stop",))
        for tape in ((2,), (0, 0, 2), (1, 3), (1, 1, 3), (1, 0, 2)):
            self.wrong(choices, (0, 0), tape, "tape")
        self.assertEqual(follow(choices, (0, 0), (1, 2, 3))[:4], ("stopped", None, 2, 2))

    def test_an_item_that_the_run_does_not_come_to(self):
        self.assertEqual(follow(walk(), (0, 0), (1, 2)), ("finished", 0, 1, 1, (1, 3), ZERO, ()))
        self.assertEqual(follow(walk(), (0, 3), (2,)), ("finished", 0, 0, 0, ONE, ZERO, ()))

    def test_the_first_wrong_argument(self):
        self.wrong(None, None, None, "graph")
        self.wrong(walk(), (0, 4), (4,), "place")
        self.wrong(walk(), (0, 0), (2, 4), "tape")

    def test_choices_are_told(self):
        self.assertIsNone(error_of(follow, all_kinds(), (0, 0), ()))


class AgainstStepsTest(unittest.TestCase):
    """Whole runs of random graphs against the rules of point 33, written down once more."""

    def expected(self, graph, place, tape):
        stack, steps, used, chance, reward = [place], 0, 0, Fraction(1), Fraction(0)
        while steps < 400:
            number, index = stack[-1]
            point = graph.procedures[number][1][index]
            if point[0] in ("reject", "stop") or (point[0] == "exit" and len(stack) == 1):
                break
            if point[0] == "draw":
                if used == len(tape):
                    break
                chance *= Fraction(*point[1][tape[used]][0])
                stack[-1] = (number, point[1][tape[used]][1])
                used += 1
            elif point[0] == "reward":
                reward += Fraction(*point[1])
                stack[-1] = (number, point[2])
            elif point[0] == "call":
                stack.append((point[1], 0))
            else:
                stack.pop()
                number, index = stack[-1]
                stack[-1] = (number, graph.procedures[number][1][index][2][point[1]])
            steps += 1
        number, index = stack[-1]
        point = graph.procedures[number][1][index]
        state = {"reject": "rejected", "stop": "stopped"}.get(point[0])
        if state is None and point[0] == "exit" and len(stack) == 1:
            state = "finished"
        if state is not None:
            return (state, point[1] if state == "finished" else None, steps, used, rational(chance), rational(reward), ())
        state = "waiting" if point[0] == "draw" and used == len(tape) else "running"
        return (state, None, steps, used, rational(chance), rational(reward), tuple(stack))

    def test_random_graphs(self):
        dice = random.Random(35)
        for graph in [walk(), chain_of_kinds()] + [random_chain(seed) for seed in range(60)]:
            for place in graph.places():
                tape = tuple([dice.randrange(4) for _ in range(dice.randrange(30))])
                try:
                    expected = self.expected(graph, place, tape)
                except IndexError:
                    self.assertEqual(error_of(follow, graph, place, tape), ("BadValue", "tape"))
                    continue
                self.assertEqual(follow(graph, place, tape), expected)


if __name__ == "__main__":
    unittest.main()
