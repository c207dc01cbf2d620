"""Points 136 to 140, and oddscall/unfolding.py."""

import unittest

from oddscall.graphs import Graph
from oddscall.masses import masses
from oddscall.reading import read_program
from oddscall.unfolding import graph_of, instances, situation
from tests.helpers import ODD_VALUES, error_of, fraction
from tests.statementwise import Full, Steps, Unfolded, run_masses
from tests.syntax import Maker, Spelling

HALVES = "draw { 1/2 { } 1/2 { } }"


def graph(text):
    """Return the procedures of the graph of the program with this text."""
    found = graph_of(read_program(text))
    assert isinstance(found, Graph)
    return found.procedures


def main(text, head="proc a()"):
    """Return the points of the graph of a single procedure with these statements."""
    return graph(head + " { " + text + " }")[0][1]


def error(text):
    """Return the error of the three functions for the program with this text."""
    program = read_program(text)
    found = {error_of(graph_of, program), error_of(instances, program), error_of(situation, program, None)}
    assert len(found) == 1 or found == {None, ("BadValue", "place")}, found
    return error_of(graph_of, program)


class PointsTest(unittest.TestCase):
    def test_the_example(self):
        text = "proc main() { var n: 3; while n < 2 { draw { 1/2 { n = n + 1; } 1/2 { } } } return n; }"
        program = read_program(text)
        wanted = (("draw", (((1, 2), 1), ((1, 2), 0))), ("draw", (((1, 2), 2), ((1, 2), 1))), ("exit", 0))
        self.assertEqual(graph_of(program).procedures, ((1, wanted),))
        self.assertEqual(situation(program, (0, 0)), (1, (0,)))
        self.assertEqual(situation(program, (0, 1)), (1, (1,)))
        self.assertEqual(situation(program, (0, 2)), (3, (2,)))

    def test_each_kind_of_statement(self):
        for text, wanted in (
                ("", (("exit", 0),)), ("stop;", (("stop",),)), ("return 5;", (("exit", 0),)), ("observe 1 = 2;", (("reject",),)),
                ("observe 1 = 1;", (("exit", 0),)), ("observe 1 = 1; stop;", (("stop",),)), ("var x: 2; x = 1; observe x = 1; stop;", (("stop",),)),
                ("reward 3/2;", (("reward", (3, 2), 1), ("exit", 0))), ("reward 0; reward 0;", (("reward", (0, 1), 1), ("reward", (0, 1), 2), ("exit", 0))),
                ("draw { 1/3 { stop; } 2/3 { } }", (("draw", (((1, 3), 1), ((2, 3), 2))), ("stop",), ("exit", 0))),
                ("draw { 1/3 { } 2/3 { } } stop;", (("draw", (((1, 3), 1), ((2, 3), 1))), ("stop",))),
                ("choose { stop; } or { } or { stop; }", (("choose", (1, 2, 3)), ("stop",), ("exit", 0), ("stop",))),
                ("if 1 < 1 { stop; }", (("exit", 0),)), ("if 1 <= 1 { stop; }", (("stop",),)), ("if 1 = 2 { } else { stop; }", (("stop",),)),
                ("if 1 = 1 { } else { stop; } reward 1;", (("reward", (1, 1), 1), ("exit", 0))),
                ("while 1 = 2 { stop; }", (("exit", 0),)), ("while 1 = 1 { stop; }", (("stop",),)), ("while 1 = 1 { }", (("draw", (((1, 1), 0),)),)),
                ("while 1 = 1 { reward 1; }", (("reward", (1, 1), 0),)),
                ("return 1; stop;", (("exit", 0),)), ("stop; reward 1;", (("stop",),))):
            self.assertEqual(main(text), wanted, text)

    def test_calls(self):
        found = graph("proc a(): 3 { var x: 2; x = call b(); return x + 1; } proc b(): 3 { draw { 1/3 { } 1/3 { return 1; } 1/3 { return 5; } } }")
        first = (("call", 1, (1, 2, 1)), ("exit", 1), ("exit", 2))
        second = (("draw", (((1, 3), 1), ((1, 3), 2), ((1, 3), 3))), ("exit", 0), ("exit", 1), ("exit", 2))
        self.assertEqual(found, ((3, first), (3, second)))
        # Without a variable, all results lead to the same situation.
        found = graph("proc a() { var x: 2; call b(); return x; } proc b(): 3 { }")
        self.assertEqual(found, ((1, (("call", 1, (1, 1, 1)), ("exit", 0))), (3, (("exit", 0),))))

    def test_remainders(self):
        for text, value in (("x = 7;", 1), ("x = 0 - 1;", 2), ("x = 0 - 7;", 2), ("x = 3;", 0), ("x = 2 * (0 - 2);", 2), ("x = 999999 * 999999;", 0),
                            ("x = 1 - 2 - 3;", 2), ("x = 1 - (2 - 3);", 2), ("x = 5; x = x * x + 0 - 10;", 0)):
            program = read_program("proc a(): 3 { var x: 3; " + text + " return x; }")
            self.assertEqual(graph_of(program).procedures, ((3, (("exit", value),)),), text)
            self.assertEqual(situation(program, (0, 0))[1], (value,), text)
        self.assertEqual(main("return 0 - 1;", "proc a(): 3"), (("exit", 2),))
        self.assertEqual(main("return 3;", "proc a(): 3"), (("exit", 0),))
        self.assertEqual(main("return 999999 * 7 - 1;", "proc a(): 2"), (("exit", 0),))
        # Values are remainders only when they are put somewhere.
        self.assertEqual(main("var x: 2; x = 1; if x + 1 = 2 { stop; }"), (("stop",),))
        self.assertEqual(main("if 0 - 1 < 0 { stop; }"), (("stop",),))
        program = read_program("proc a() { call b(0 - 1, 9); } proc b(n: 3, m: 4) { }")
        self.assertEqual(instances(program), [("a", ()), ("b", (2, 1))])

    def test_expressions_and_conditions(self):
        for condition, holds in (
                ("1 = 1", True), ("1 = 2", False), ("1 != 1", False), ("1 != 2", True), ("1 < 2", True), ("2 < 2", False), ("2 <= 2", True),
                ("3 <= 2", False), ("2 > 1", True), ("2 > 2", False), ("2 >= 2", True), ("1 >= 2", False), ("not 1 = 1", False), ("not 1 < 1", True),
                ("1 = 1 and 1 = 2", False), ("1 = 1 and 2 = 2", True), ("1 = 2 or 2 = 2", True), ("1 = 2 or 2 = 3", False),
                ("1 = 1 or 1 = 1 and 1 = 2", True), ("[1 = 1 or 1 = 1] and 1 = 2", False), ("not [1 = 1 and 1 = 2]", True),
                ("2 + 3 * 4 = 14", True), ("(2 + 3) * 4 = 20", True), ("2 - 3 - 4 = 0 - 5", True), ("2 - (3 - 4) = 3", True)):
            self.assertEqual(main("if " + condition + " { stop; }"), (("stop",),) if holds else (("exit", 0),), condition)

    def test_situations_with_other_values_are_other_points(self):
        # Both branches end without a statement, but the variable has another value.
        text = "proc a() { var x: 2; draw { 1/2 { x = 1; } 1/2 { } } }"
        self.assertEqual(graph(text), ((1, (("draw", (((1, 2), 1), ((1, 2), 2))), ("exit", 0), ("exit", 0))),))
        program = read_program(text)
        self.assertEqual([situation(program, (0, index)) for index in range(3)], [(0, (0,)), (None, (1,)), (None, (0,))])
        # The same statement stands twice in the text, and is two of them.
        self.assertEqual(main("draw { 1/2 { stop; } 1/2 { stop; } }"), (("draw", (((1, 2), 1), ((1, 2), 2))), ("stop",), ("stop",)))
        self.assertEqual(main("draw { 1/2 { } 1/2 { } } stop;"), (("draw", (((1, 2), 1), ((1, 2), 1))), ("stop",)))

    def test_idle_situations(self):
        # Two loops that change values for ever are the same point, and also one that is entered later.
        text = "proc a() { var x: 3; choose { while 1=1 { x = x + 1; } } or { while 1=1 { } } or { x = 2; while x > 0 { x = 3 - x; } } or { reward 1; while x = 0 { } } }"
        program = read_program(text)
        self.assertEqual(graph_of(program).procedures[0][1], (("choose", (1, 1, 1, 2)), ("draw", (((1, 1), 1),)), ("reward", (1, 1), 1)))
        self.assertEqual(situation(program, (0, 1)), (None, ()))
        self.assertEqual(main("reward 1; while 1 = 1 { }"), (("reward", (1, 1), 1), ("draw", (((1, 1), 1),))))
        # Each instance has an idle point of its own, which is no end.
        program = read_program("proc a() { call b(0); call b(1); } proc b(n: 2) { while 1 = 1 { } }")
        self.assertEqual([row for _, row in graph_of(program).procedures],
                         [(("call", 1, (1,)), ("call", 2, (2,)), ("exit", 0)), (("draw", (((1, 1), 0),)),), (("draw", (((1, 1), 0),)),)])
        program = read_program("proc a() { choose { } or { while 1 = 1 { } } }")
        self.assertEqual([situation(program, (0, index)) for index in range(3)], [(0, ()), (None, ()), (None, ())])
        self.assertEqual(graph_of(program).procedures[0][1], (("choose", (1, 2)), ("exit", 0), ("draw", (((1, 1), 2),))))

    def test_the_order_of_points_and_instances(self):
        text = """
            proc a() { choose { call c(1); } or { call b(); } call c(0); }
            proc b() { call c(1); reward 1; }
            proc c(n: 2) { if n = 0 { stop; } call b(); call c(n); }"""
        program = read_program(text)
        self.assertEqual(instances(program), [("a", ()), ("c", (1,)), ("b", ()), ("c", (0,))])
        self.assertEqual([row for _, row in graph_of(program).procedures], [
            (("choose", (1, 2)), ("call", 1, (3,)), ("call", 2, (3,)), ("call", 3, (4,)), ("exit", 0)),
            (("call", 2, (1,)), ("call", 1, (2,)), ("exit", 0)), (("call", 1, (1,)), ("reward", (1, 1), 2), ("exit", 0)), (("stop",),)])
        self.assertEqual([situation(program, (1, index)) for index in range(3)], [(8, (1,)), (9, (1,)), (None, (1,))])
        self.assertEqual(situation(program, (3, 0)), (7, (0,)))
        # A procedure that is not called has no instance.
        self.assertEqual(instances(read_program("proc a() { } proc b() { }")), [("a", ())])

    def test_calls_of_itself_with_other_arguments(self):
        text = "proc a(): 2 { var x: 2; x = call b(3); return x; } proc b(n: 4): 2 { var x: 2; if n = 0 { return 1; } x = call b(n - 1); return 1 - x; }"
        program = read_program(text)
        self.assertEqual(instances(program), [("a", ()), ("b", (3,)), ("b", (2,)), ("b", (1,)), ("b", (0,))])
        self.assertEqual(graph_of(program).procedures[1], (2, (("call", 2, (1, 2)), ("exit", 1), ("exit", 0))))
        self.assertEqual(graph_of(program).procedures[4], (2, (("exit", 1),)))
        self.assertEqual(situation(program, (1, 2)), (5, (3, 1)))
        self.assertEqual(graph("proc a() { " + HALVES + " call a(); }"), ((1, (("draw", (((1, 2), 1), ((1, 2), 1))), ("call", 0, (2,)), ("exit", 0))),))

    def test_values_of_parameters_and_variables(self):
        program = read_program("proc a() { call b(1, 2); } proc b(n: 3, m: 3) { var x: 4; var y: 5; m = n - m; x = 0 - 1; reward 1; y = m; stop; }")
        self.assertEqual(situation(program, (1, 0)), (3, (1, 2, 3, 0)))
        self.assertEqual(situation(program, (1, 1)), (5, (1, 2, 3, 2)))
        self.assertEqual([situation(program, (0, index)) for index in range(2)], [(0, ()), (None, ())])

    def test_places(self):
        program = read_program("proc a() { stop; }")
        for value in ODD_VALUES + (0, (0, 1), (1, 0), (0, -1), (0, True), [0, 0], (0, 0, 0)):
            self.assertEqual(error_of(situation, program, value), ("BadValue", "place"), value)

    def test_random_programs(self):
        seen = {}
        for seed in range(700):
            wanted = Maker(seed, most=3 + seed % 3, busy=seed % 3 == 2).program()
            text = Spelling(seed).text(wanted)
            if len(text) > 8000:
                continue
            program = read_program(text)
            try:
                model = Unfolded(wanted)
            except Full as e:
                self.assertEqual(error(text), ("TooLarge", str(e)))
                seen[str(e)] = seen.get(str(e), 0) + 1
                continue
            except Steps:
                self.assertEqual(error(text), ("TooLarge", "steps"))
                continue
            self.assertEqual(graph_of(program).procedures, model.procedures(), text)
            self.assertEqual(instances(program), [(wanted[number][0], values) for number, values in model.instances])
            for place in graph_of(program).places():
                self.assertEqual(situation(program, place), model.told(place))
            seen["idle"] = seen.get("idle", 0) + any(["idle" in row for row in model.situations])
            seen["large"] = seen.get("large", 0) + (len(graph_of(program).places()) > 8)
        self.assertGreater(min([seen[word] for word in ("idle", "large", "points", "procedures")]), 10)

    def test_blanks_do_not_matter(self):
        for seed in range(40):
            wanted = Maker(seed).program()
            texts = [Spelling(seed + more).text(wanted) for more in (0, 1000)]
            if max([len(text) for text in texts]) <= 8000 and error(texts[0]) is None:
                self.assertEqual(graph(texts[0]), graph(texts[1]))


class RunsTest(unittest.TestCase):
    def test_masses_against_runs_of_the_program(self):
        checked = ended = 0
        for seed in range(500):
            wanted = Maker(seed, choices=False).program()
            text = Spelling(seed).text(wanted)
            if len(text) > 8000 or error(text) is not None:
                continue
            found = graph_of(read_program(text))
            for depth in (0, 1, 2, 5, 9):
                ends = run_masses(wanted, depth)
                results = wanted[0][2]
                row = [ends.get(end, 0) for end in list(range(results)) + ["rejected", "stopped"]]
                self.assertEqual([fraction(one) for one in masses(found, (0, 0), depth)[0]], row, text)
                ended += sum(row) > 0
            checked += 1
        self.assertGreater(checked, 250)
        self.assertGreater(ended, 500)

    def test_the_walk(self):
        found = graph_of(read_program("proc walk() { draw { 2/3 { call walk(); call walk(); } 1/3 { } } }"))
        self.assertEqual(found.procedures[0][1], (("draw", (((2, 3), 1), ((1, 3), 2))), ("call", 0, (3,)), ("exit", 0), ("call", 0, (2,))))
        self.assertEqual(masses(found, (0, 0), 7)[0][0], (11, 27))


class BoundsTest(unittest.TestCase):
    def test_steps_before_a_settled_situation(self):
        for end, points in (("stop;", (("stop",),)), ("", (("exit", 0),)), ("observe x = 1;", (("reject",),))):
            self.assertEqual(main("var x: 2; " + "x=0;" * 1000 + end), points)
            self.assertEqual(error("proc a() { var x: 2; " + "x=0;" * 1001 + end + "}"), ("TooLarge", "steps"))
        for statement in ("if 1=1{}", "observe 1=1;", "while 1=2{}"):
            text = "var x: 2; " + statement * 400 + "x=0;" * 600
            self.assertEqual(main(text + "stop;"), (("stop",),))
            self.assertEqual(error("proc a() { " + text + "x=0;stop;}"), ("TooLarge", "steps"))
        # A loop with three counters: after the last round, the condition that does not hold is a silent statement, too.
        loop = "while z < {} { x = x + 1; if x = 0 { y = y + 1; if y = 0 { z = z + 1; } } } stop;"
        head = "var x: 8; var y: 8; var z: 8; "
        # A round has 3 silent statements, every eighth one 2 more, and every 64th one a sixth one.
        self.assertEqual(1 + 4 * (64 * 3 + 8 * 2 + 1), 837)
        self.assertEqual(main(head + "x=0;" * 163 + loop.replace("{}", "4", 1)), (("stop",),))
        self.assertEqual(error("proc a() { " + head + "x=0;" * 164 + loop.replace("{}", "4", 1) + "}"), ("TooLarge", "steps"))

    def test_steps_before_an_earlier_situation_comes_back(self):
        for before in (0, 1, 400):
            sets = 999 - before
            text = "var x: 2; " + "x=0;" * before + "while 1=1 {" + "x=0;" * sets
            self.assertEqual(main(text + "}"), (("draw", (((1, 1), 0),)),))
            self.assertEqual(error("proc a() { " + text + "x=0;}}"), ("TooLarge", "steps"))
        # At the end of the first round a value changes, so that it is the second one that comes back.
        text = "var x: 2; var y: 2; while 1=1 {" + "y=0;" * 498
        self.assertEqual(main(text + "x=1; }"), (("draw", (((1, 1), 0),)),))
        self.assertEqual(error("proc a() { " + text + "y=0; x=1; } }"), ("TooLarge", "steps"))

    def test_each_settling_is_counted_for_itself(self):
        text = "var x: 2; " + "x=0;" * 900 + "reward 1;" + "x=0;" * 900 + "stop;"
        self.assertEqual(main(text), (("reward", (1, 1), 1), ("stop",)))
        self.assertEqual(error("proc a() { var x: 2; " + "x=0;" * 600 + "reward 1;" + "x=0;" * 1001 + "stop; }"), ("TooLarge", "steps"))

    def test_instances(self):
        text = "proc a() { call b(0); } proc b(n: 5) { call b(n + 1); }"
        self.assertEqual(len(instances(read_program(text))), 6)
        self.assertEqual(error(text.replace("5", "6")), ("TooLarge", "procedures"))
        text = "".join([f"proc p{number}() {{ call p{(number + 1) % 6}(); }} " for number in range(6)])
        self.assertEqual(len(graph(text)), 6)

    def test_points_of_an_instance(self):
        self.assertEqual(len(main("reward 1;" * 15)), 16)
        self.assertEqual(error("proc a() { " + "reward 1;" * 16 + "}"), ("TooLarge", "points"))
        self.assertEqual(error("proc a() { call b(); } proc b() { " + "reward 1;" * 16 + "}"), ("TooLarge", "points"))
        # Idle points count as well.
        self.assertEqual(len(main("reward 1;" * 15 + "while 1=1 { }")), 16)
        self.assertEqual(error("proc a() { " + "reward 1;" * 16 + "while 1=1 { } }"), ("TooLarge", "points"))

    def test_points_in_all(self):
        def text(last):
            return "proc a() { call b(); " + "reward 1;" * 14 + "} proc b() { call c(); " + "reward 1;" * 14 + "} proc c() {" + "reward 1;" * last + "}"

        self.assertEqual([len(row) for _, row in graph(text(7))], [16, 16, 8])
        self.assertEqual(error(text(8)), ("TooLarge", "points"))
        # The 41st point may be the first one of an instance.
        more = text(7)[:-1] + "call a(); }"
        self.assertEqual(error(more), ("TooLarge", "points"))
        self.assertEqual(error("proc d() { call a(); } " + text(5)), None)
        self.assertEqual(error("proc d() { call a(); } " + text(6)), ("TooLarge", "points"))

    def test_which_of_two_comes_first(self):
        head = "proc a() { var x: 8; var y: 8; var z: 8; "
        other = "proc b(n: 8) { var x: 8; var y: 8; var z: 8; "
        long = "while 1=1 { x = x + 1; if x = 0 { y = y + 1; if y = 0 { z = z + 1; } } }"
        many = "reward 1;" * 16
        self.assertEqual(error(head + long + "}"), ("TooLarge", "steps"))
        # the seventh instance before its first point is settled, and before the point behind the call
        six = "".join([f"call b({number});" for number in range(6)])
        for end in ("", long):
            self.assertEqual(error(head + six + end + "}" + other + "if n = 5 {" + long + "} }"), ("TooLarge", "procedures"))
        self.assertEqual(error(head + six + "}" + other + "if n = 4 {" + long + "} }"), ("TooLarge", "steps"))
        # the called instance, with its first point, before the points behind the call
        self.assertEqual(error(head + "reward 1;" * 15 + "call b(0); }" + other + long + "}"), ("TooLarge", "steps"))
        self.assertEqual(error(head + "reward 1;" * 15 + "call b(0);" + long + "}" + other + "stop; }"), ("TooLarge", "steps"))
        self.assertEqual(error(head + "reward 1;" * 15 + "call b(0); }" + other + "stop; }"), ("TooLarge", "points"))
        # the branches, blocks and results in their order
        for one, two, wanted in (("", long, "points"), (long, "", "steps")):
            for text in ("draw { 1/2 { " + one + "} 1/2 { " + two + "} }", "choose { " + one + "} or { " + two + "}"):
                self.assertEqual(error(head + "reward 1;" * 15 + text + "}"), ("TooLarge", wanted))
        # all points of an instance before those of the next one
        self.assertEqual(error(head + "call b(0); " + many + "}" + other + "reward 1; " + long + "}"), ("TooLarge", "points"))
        self.assertEqual(error(head + "call b(0); reward 1; " + long + "}" + other + many + "}"), ("TooLarge", "steps"))

    def test_place_behind_too_large(self):
        program = read_program("proc a() { " + "reward 1;" * 16 + "}")
        self.assertEqual(error_of(situation, program, None), ("TooLarge", "points"))
        self.assertEqual(error_of(instances, program), ("TooLarge", "points"))

    def test_new_lists(self):
        program = read_program("proc a() { call b(1); } proc b(n: 2) { }")
        instances(program).clear()
        self.assertEqual(instances(program), [("a", ()), ("b", (1,))])
        self.assertEqual(graph_of(program).procedures, graph_of(program).procedures)


if __name__ == "__main__":
    unittest.main()
