"""The examples of the document, as they stand there, and those of README.md."""

import doctest
import unittest
from pathlib import Path

from oddscall.graphs import Graph
from oddscall.reading import read_program
from tests.helpers import error_of

FIELDS = """
>>> from oddscall.fields import divide, multiply, root_of, sign_of
>>> a = ((1, 1), (1, 1))
>>> multiply(2, a, a)
((3, 1), (2, 1))
>>> divide(2, ((1, 1), (0, 1)), a)
((-1, 1), (1, 1))
>>> sign_of(2, ((-3, 2), (1, 1)))
-1
>>> root_of(2, ((3, 1), (2, 1)))
((1, 1), (1, 1))
"""

NUMBERS = """
>>> from oddscall.numbers import compare_numbers, element_of, floor_of, number_of
>>> number_of(2, ((1, 1), (1, 1)))
('root', (-1, -2, 1), 1)
>>> element_of(("root", (-1, -2, 1), 1))
(8, ((1, 1), (1, 2)))
>>> compare_numbers(("root", (-2, 0, 1), 1), ("root", (-3, 0, 1), 1))
-1
>>> floor_of(("root", (-2, 0, 1), 1), 1000)
1414
"""

# Point 18, whose sentences are written here as calls.
POINT_18 = """
>>> from oddscall.fields import multiply, root_of
>>> from oddscall.numbers import number_of
>>> multiply(2, ((1, 1), (1, 1)), ((1, 1), (1, 1)))
((3, 1), (2, 1))
>>> root_of(2, ((3, 1), (2, 1)))
((1, 1), (1, 1))
>>> root_of(2, ((2, 1), (0, 1)))
((0, 1), (1, 1))
>>> root_of(3, ((2, 1), (0, 1))) is None
True
>>> number_of(2, ((1, 1), (1, 1)))
('root', (-1, -2, 1), 1)
"""

GRAPHS = """
>>> from oddscall.graphs import Graph
>>> heads = ("draw", (((2, 3), 1), ((1, 3), 3)))
>>> walk = Graph(procedures=((1, (heads, ("call", 0, (2,)), ("call", 0, (3,)), ("exit", 0))),))
>>> walk.places()
[(0, 0), (0, 1), (0, 2), (0, 3)]
>>> walk.point_at((0, 1))
('call', 0, (2,))
>>> walk.named((0, 1))
[(0, 0), (0, 2)]
>>> walk.ways((0, 3))
[0, 1, 2]
>>> walk.is_chain()
True

>>> from oddscall.graphs import Graph
>>> Graph(procedures=((1, (("draw", (((2, 3), 1), ((1, 4), 1))), ("exit", 0))),))
raises BadGraph

>>> from oddscall.changes import reached_graph, renamed
>>> from oddscall.graphs import Graph
>>> graph = Graph(procedures=((1, (("reward", (1, 2), 2), ("stop",), ("call", 2, ()))), (0, (("reject",),)), (0, (("stop",),))))
>>> small, places = reached_graph(graph)
>>> small.procedures
((1, (('reward', (1, 2), 1), ('call', 1, ()))), (0, (('stop',),)))
>>> places
[(0, 0), (0, 2), (2, 0)]
>>> renamed(graph, [0, 2, 1], [[0, 2, 1], [0], [0]]).procedures
((1, (('reward', (1, 2), 1), ('call', 1, ()), ('stop',))), (0, (('stop',),)), (0, (('reject',),)))
"""

FOLLOWING = """
>>> from oddscall.following import follow
>>> from oddscall.graphs import Graph
>>> heads = ("draw", (((2, 3), 1), ((1, 3), 3)))
>>> walk = Graph(procedures=((1, (heads, ("call", 0, (2,)), ("call", 0, (3,)), ("exit", 0))),))
>>> follow(walk, (0, 0), (0, 1, 1))
('finished', 0, 7, 3, (2, 27), (0, 1), ())
>>> follow(walk, (0, 0), (0, 0))
('waiting', None, 4, 2, (4, 9), (0, 1), ((0, 1), (0, 1), (0, 0)))
"""

MASSES = """
>>> from oddscall.graphs import Graph
>>> from oddscall.masses import lengths, mass, masses
>>> heads = ("draw", (((2, 3), 1), ((1, 3), 3)))
>>> walk = Graph(procedures=((1, (heads, ("call", 0, (2,)), ("call", 0, (3,)), ("exit", 0))),))
>>> mass(walk, (0, 0), 0, 7)
(11, 27)
>>> lengths(walk, (0, 0), 0, 7)
[(0, 1), (1, 3), (0, 1), (0, 1), (0, 1), (0, 1), (0, 1), (2, 27)]
>>> masses(walk, (0, 0), 1)
(((1, 3), (0, 1), (0, 1)), (2, 3))
"""

# Point 54.
PARTS = """
>>> from oddscall.equations import positives, terms_of
>>> from oddscall.graphs import Graph
>>> from oddscall.parts import cuts, degrees, parts
>>> heads = ("draw", (((2, 3), 1), ((1, 3), 3)))
>>> walk = Graph(procedures=((1, (heads, ("call", 0, (2,)), ("call", 0, (3,)), ("exit", 0))),))
>>> terms_of(walk, (0, 0, 0))
[((2, 3), ((0, 1, 0),)), ((1, 3), ((0, 3, 0),))]
>>> terms_of(walk, (0, 1, 1))
[((1, 1), ((0, 0, 0), (0, 2, 1))), ((1, 1), ((0, 0, 1),))]
>>> positives(walk)
[(0, 0, 0), (0, 1, 0), (0, 2, 0), (0, 3, 0)]
>>> parts(walk)
[(((0, 3, 0),), False, None), (((0, 0, 0), (0, 1, 0), (0, 2, 0)), True, (0, 0, 0))]
>>> cuts(walk, 1)
[(0, 0, 0), (0, 1, 0)]
>>> degrees(walk, (0, 0, 0))
[1, 2, 1]
>>> degrees(walk, (0, 1, 0))
[1, 1, 1]
>>> degrees(walk, (0, 2, 0)) is None
True
"""

CHANCES = """
>>> from oddscall.chances import chance
>>> from oddscall.graphs import Graph
>>> from oddscall.judging import accepts
>>> from oddscall.solving import solve
>>> points = (("draw", (((2, 3), 1), ((1, 3), 3))), ("call", 0, (2,)), ("call", 0, (3,)), ("exit", 0))
>>> twice = Graph(procedures=((1, points),))
>>> solution = solve(twice)
>>> accepts(twice, solution)
True
>>> chance(twice, solution, (0, 0), 0)
('rational', (1, 2))
>>> zero = ((0, 1), (0, 1))
>>> one = ((1, 1), (0, 1))
>>> accepts(twice, (0, (((one, zero, zero), (one, zero, zero), (one, zero, zero), (one, zero, zero)),), ((one, one, one),)))
False
"""

DEPTHS = """
>>> from oddscall.depths import first_depth, is_beyond
>>> from oddscall.graphs import Graph
>>> from oddscall.questions import compare_chance, ends_surely, likeliest_way, rest_of
>>> from oddscall.solving import solve
>>> points = (("draw", (((2, 3), 1), ((1, 3), 3))), ("call", 0, (2,)), ("call", 0, (3,)), ("exit", 0))
>>> twice = Graph(procedures=((1, points),))
>>> solution = solve(twice)
>>> compare_chance(twice, solution, (0, 0), 0, ("rational", (1, 2)))
0
>>> ends_surely(twice, solution, (0, 0))
False
>>> likeliest_way(twice, solution, (0, 0))
0
>>> rest_of(twice, solution, (0, 0), 0, 7)
('rational', (5, 54))
>>> first_depth(twice, (0, 0), 0, (2, 5))
7
>>> is_beyond(twice, (0, 0), 0, (2, 5), 6)
False
"""

# Points 64 and 72, whose sentences are written here as calls.
POINT_72 = """
>>> from oddscall.chances import chance
>>> from oddscall.graphs import Graph
>>> from oddscall.questions import chance_of_any
>>> from oddscall.solving import solve
>>> points = (("draw", (((2, 3), 1), ((1, 3), 3))), ("call", 0, (2,)), ("call", 0, (3,)), ("exit", 0))
>>> twice = Graph(procedures=((1, points),))
>>> solution = solve(twice)
>>> [chance(twice, solution, (0, 0), way) for way in twice.ways((0, 0))]
[('rational', (1, 2)), ('rational', (0, 1)), ('rational', (0, 1))]
>>> chance_of_any(twice, solution, (0, 0), (1, 2))
('rational', (0, 1))
"""

OBSERVING = """
>>> from oddscall.graphs import Graph
>>> from oddscall.observing import endings, observed_at, observed_draws, posterior
>>> from oddscall.solving import solve
>>> first = ("draw", (((1, 2), 1), ((1, 2), 4)))
>>> second = ("draw", (((1, 2), 2), ((1, 2), 3)))
>>> coins = Graph(procedures=((2, (first, second, ("reject",), ("exit", 0), ("exit", 1))),))
>>> solution = solve(coins)
>>> posterior(coins, solution, (0, 0))
(('rational', (1, 3)), ('rational', (2, 3)))
>>> endings(coins, solution, (0, 0))
((('rational', (1, 4)), ('rational', (1, 2))), ('rational', (1, 4)), ('rational', (0, 1)), ('rational', (0, 1)))
>>> observed_at(coins, (0, 0), 0, 1)
(0, 1)
>>> observed_draws(coins, solution, 0)
(((1, 3), (2, 3)), ((0, 1), (1, 1)), None, None, None)
"""

DECIDING = """
>>> from oddscall.deciding import accepts_greatest, greatest, least
>>> from oddscall.graphs import Graph
>>> toss = ("draw", (((1, 2), 2), ((1, 2), 3)))
>>> game = Graph(procedures=((2, (("choose", (0, 1)), toss, ("exit", 0), ("exit", 1))),))
>>> greatest(game, 0, 0)
(((1, 2), (1, 2), (1, 1), (0, 1)), (1,))
>>> least(game, 0, 0)
(((0, 1), (1, 2), (1, 1), (0, 1)), (0,))
>>> accepts_greatest(game, 0, 0, (((1, 1), (1, 2), (1, 1), (0, 1)), (0,)))
False
"""

GRAMMARS = """
>>> from oddscall.grammars import best_tree, graph_of_grammar, length_chance, rule_uses, word_chance
>>> grammar = ((((1, 3), (0, 0)), ((2, 3), ("a",))),)
>>> graph_of_grammar(grammar).procedures
((1, (('draw', (((1, 3), 1), ((2, 3), 3))), ('call', 0, (2,)), ('call', 0, (4,)), ('reward', (1, 1), 4), ('exit', 0))),)
>>> word_chance(grammar, "aa")
(4, 27)
>>> length_chance(grammar, 3)
(16, 243)
>>> best_tree(grammar, "aaa")
((8, 243), [(0, 0), (0, 0), (0, 1), (0, 1), (0, 1)])
>>> rule_uses(grammar, "aa")
[[(1, 1), (2, 1)]]

>>> from oddscall.beginnings import beginning_chance, next_letters
>>> from oddscall.grammars import graph_of_grammar
>>> from oddscall.solving import solve
>>> grammar = ((((1, 3), (0, 0)), ((2, 3), ("a",))),)
>>> solution = solve(graph_of_grammar(grammar))
>>> beginning_chance(grammar, solution, "")
('rational', (1, 1))
>>> beginning_chance(grammar, solution, "aa")
('rational', (1, 3))
>>> next_letters(grammar, solution, "aa")
[('a', ('rational', (5, 27)))]
"""

# Point 116.
ALIKE = """
>>> from oddscall.alike import alike, alike_classes, first_difference, merged
>>> from oddscall.graphs import Graph
>>> start = ("draw", (((1, 2), 1), ((1, 2), 2)))
>>> one = ("draw", (((1, 3), 3), ((2, 3), 4)))
>>> other = ("draw", (((2, 3), 4), ((1, 3), 3)))
>>> graph = Graph(procedures=((1, (start, one, other, ("exit", 0), ("stop",))),))
>>> alike_classes(graph)
[[(0,), (1, 2), (3,), (4,)]]
>>> alike(graph, (0, 1), (0, 2))
True
>>> merged(graph).procedures
((1, (('draw', (((1, 1), 1),)), ('draw', (((1, 3), 2), ((2, 3), 3))), ('exit', 0), ('stop',))),)
>>> first_difference(graph, (0, 0), (0, 1))
(1, 0)
"""

LEDGER = """
>>> from oddscall.graphs import Graph
>>> from oddscall.ledger import Ledger
>>> from oddscall.solving import solve
>>> first = (1, (("draw", (((1, 2), 1), ((1, 2), 2))), ("exit", 0), ("stop",), ("call", 1, (1,))))
>>> second = (1, (("draw", (((1, 3), 1), ((2, 3), 2))), ("exit", 0), ("stop",)))
>>> ledger = Ledger(Graph(procedures=(first, second)))
>>> ledger.record(solve(ledger.graph()), (0, 0), 0)
0
>>> ledger.record(solve(ledger.graph()), (0, 3), 0)
1
>>> ledger.fact(1)
((0, 3), 0, ('rational', (1, 3)))
>>> ledger.rests_on((0, 3))
[(0, 1), (0, 3), (1, 0), (1, 1), (1, 2)]
>>> ledger.edit((1, 0), ("exit", 0))
[1]
>>> ledger.standing()
[0]
>>> ledger.undo()
'edit'
>>> ledger.standing()
[0, 1]
"""

UNFOLDING = """
>>> from oddscall.reading import read_program
>>> from oddscall.unfolding import graph_of, situation
>>> program = read_program("proc main() { var n: 3; while n < 2 { draw { 1/2 { n = n + 1; } 1/2 { } } } return n; }")
>>> graph_of(program).procedures
((1, (('draw', (((1, 2), 1), ((1, 2), 0))), ('draw', (((1, 2), 2), ((1, 2), 1))), ('exit', 0))),)
>>> situation(program, (0, 1))
(1, (1,))
>>> situation(program, (0, 2))
(3, (2,))

>>> from oddscall.reading import next_tokens, read_program
>>> from oddscall.writing import program_text
>>> program_text(read_program("proc a(): 2 { var x: 2; x = call b(1); return x+1; } proc b(n: 2): 2 { observe n != 0; return 1-(n-0); }"))
'proc a(): 2 {\\n  var x: 2;\\n  x = call b(1);\\n  return x + 1;\\n}\\nproc b(n: 2): 2 {\\n  observe n != 0;\\n  return 1 - (n - 0);\\n}\\n'
>>> next_tokens("proc a() { x")
['"="']
>>> next_tokens("proc a() { observe [1")
['"="', '"!="', '"<"', '"<="', '">"', '">="', '"+"', '"-"', '"*"']

>>> from oddscall.reading import read_program
>>> read_program("proc a() { draw { 1/2 { } 1/3 { } } }")
raises TextError
"""


class ExamplesTest(unittest.TestCase):
    def check(self, text):
        names = {}
        for example in doctest.DocTestParser().get_examples(text):
            wanted = example.want.strip()
            if wanted == "":
                exec(example.source, names)
            elif wanted.startswith("raises "):
                with self.assertRaises(Exception) as caught:
                    eval(example.source, names)
                self.assertEqual(f"raises {caught.exception.__class__.__name__}", wanted, example.source)
            else:
                self.assertEqual(repr(eval(example.source, names)), wanted, example.source)

    def test_fields(self):
        self.check(FIELDS)

    def test_numbers(self):
        self.check(NUMBERS)
        self.check(POINT_18)

    def test_graphs(self):
        self.check(GRAPHS)
        points = (("draw", (((2, 3), 1), ((1, 4), 1))), ("exit", 0))
        self.assertEqual(error_of(Graph, procedures=((1, points),)), ("BadGraph", (0, 0), "sum"))

    def test_following(self):
        self.check(FOLLOWING)

    def test_masses(self):
        self.check(MASSES)

    def test_parts(self):
        self.check(PARTS)

    def test_chances(self):
        self.check(CHANCES)

    def test_depths(self):
        self.check(DEPTHS)
        self.check(POINT_72)

    def test_observing(self):
        self.check(OBSERVING)

    def test_deciding(self):
        self.check(DECIDING)

    def test_grammars(self):
        self.check(GRAMMARS)

    def test_alike(self):
        self.check(ALIKE)

    def test_ledger(self):
        self.check(LEDGER)

    def test_unfolding(self):
        self.check(UNFOLDING)
        text = "proc a() { draw { 1/2 { } 1/3 { } } }"
        self.assertEqual(error_of(read_program, text), ("TextError", 1, 12, "the total of the chances is not 1"))
        text = "proc main() { var n: 3; while n < 2 { draw { 1/2 { n = n + 1; } 1/2 { } } } return n; }"
        program = read_program(text)
        # Its statements are numbered 0 (while), 1 (draw), 2 (n = n + 1) and 3 (return).
        starts = [text.index(word) + 1 for word in ("while", "draw", "n = n", "return")]
        self.assertEqual([program.place_of(number) for number in range(4)], [(1, column) for column in starts])
        self.assertEqual(error_of(program.place_of, 4), ("BadValue", "statement"))

    def test_the_readme(self):
        text = (Path(__file__).resolve().parent.parent / "README.md").read_text(encoding="utf-8").replace("```", "")
        runner = doctest.DocTestRunner()
        runner.run(doctest.DocTestParser().get_doctest(text, {}, "README.md", "README.md", 0))
        self.assertGreater(runner.tries, 0)
        self.assertEqual(runner.failures, 0)


if __name__ == "__main__":
    unittest.main()
