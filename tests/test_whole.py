"""Points 1 to 8 over the whole program: arguments, results, errors, and what files may use."""

import ast
import copy
import importlib
import unittest
from pathlib import Path

from oddscall.beginnings import next_letters
from oddscall.deciding import greatest
from oddscall.errors import BadGraph, BadValue, NotTold, OddsError, TextError, TooLarge
from oddscall.grammars import graph_of_grammar
from oddscall.graphs import Graph
from oddscall.ledger import Ledger
from oddscall.reading import Program, read_program
from oddscall.resting import branch_uses
from oddscall.rewards import means
from oddscall.solving import solve
from tests.helpers import error_of
from tests.samples import all_kinds, walk
from tests.test_interface import FUNCTIONS, LEDGER_METHODS, METHODS
from tests.test_ledger import state_of
from tests.test_strategies import game
from tests.told import three_calls, two_roots
from tests.wordings import one_letter

PACKAGE = Path(__file__).resolve().parent.parent / "oddscall"
ZERO = ((0, 1), (0, 1))
HALF = ("rational", (1, 2))
TEXT = "proc main() { var n: 3; while n < 2 { draw { 1/2 { n = n + 1; } 1/2 { choose { } or { call b(n); } } } } return n; } proc b(m: 2) { }"


def calls():
    """Return a dict with the arguments of a call of each function of the interface."""
    chain = walk()
    solution = solve(chain)
    grammar = one_letter()
    words = solve(graph_of_grammar(grammar))
    program = read_program(TEXT)
    start = (0, 0)
    edits = [((0, 3), ("stop",)), ((0, 3), ("exit", 0))]
    return {
        "rationals": {
            "ratio": (2, -4), "plus": ((1, 2), (1, 3)), "minus": ((1, 2), (1, 3)), "times": ((1, 2), (1, 3)), "over": ((1, 2), (1, 3)),
            "less": ((1, 2), (1, 3)), "is_rational": ([1, 2],)},
        "fields": {
            "is_field": (2,), "is_element": (2, [(1, 1), (0, 1)]), "add": (2, ZERO, ZERO), "subtract": (2, ZERO, ZERO),
            "multiply": (2, ZERO, ZERO), "divide": (2, ZERO, ((1, 1), (1, 1))), "sign_of": (2, ((1, 1), (-1, 1))), "root_of": (2, ((3, 1), (2, 1)))},
        "numbers": {
            "is_number": (["rational", (1, 2)],), "number_of": (2, ((1, 1), (1, 1))), "element_of": (("root", (-2, 0, 1), 1),),
            "number_sign": (HALF,), "compare_numbers": (HALF, HALF), "floor_of": (HALF, 3)},
        "changes": {
            "renamed": (chain, [0], [[0, 2, 1, 3]]), "old_place": ([0], [[0, 2, 1, 3]], (0, 1)), "reached_graph": (all_kinds(),)},
        "following": {"follow": (all_kinds(), start, (1, 0))},
        "masses": {"mass": (chain, start, 0, 7), "lengths": (chain, start, 0, 7), "masses": (chain, start, 7)},
        "equations": {"unknowns": (chain,), "terms_of": (chain, (0, 1, 0)), "positives": (chain,), "live_terms": (chain,)},
        "parts": {
            "parts": (chain,), "cuts": (chain, 1), "degrees": (chain, (0, 0, 0)), "groups_of": (chain, (0, 0, 0)), "why_not": (three_calls(),)},
        "slopes": {"right_side": (chain, (0, 1, 0), 0, solution[1]), "slope": (chain, (0, 1, 0), (0, 0, 0), 0, solution[1])},
        "judging": {"accepts": (chain, list(solution))},
        "solving": {"solve": (chain,)},
        "chances": {"chance": (chain, solution, start, 0), "chance_element": (chain, solution, start, 0)},
        "questions": {
            "compare_chance": (chain, solution, start, 0, HALF), "compare_chances": (chain, solution, (start, 0), (start, 1)),
            "chance_of_any": (chain, solution, start, (0, 2)), "ends_surely": (chain, solution, start), "likeliest_way": (chain, solution, start),
            "rest_of": (chain, solution, start, 0, 7)},
        "depths": {"first_depth": (chain, start, 0, (2, 5)), "is_beyond": (chain, start, 0, (2, 5), 7)},
        "rewards": {
            "means": (chain, solution, "steps"), "accepts_means": (chain, solution, "steps", list(means(chain, solution, "steps"))),
            "expected": (chain, solution, "steps", start), "mean_at": (chain, "steps", start, 5)},
        "observing": {
            "endings": (chain, solution, start), "observed": (chain, solution, start, 0), "posterior": (chain, solution, start),
            "observed_at": (chain, start, 0, 5), "observed_draws": (game_chain(), solve(game_chain()), 0), "rejecting": (chain, [(0, 3)])},
        "strategies": {
            "chain_of": (game(), 0, (1,)), "greatest_mass": (game(), start, 0, 5), "least_mass": (game(), start, 0, 5), "avoiding": (game(), 0, 0)},
        "deciding": {
            "greatest": (game(), 0, 0), "least": (game(), 0, 0), "accepts_greatest": (game(), 0, 0, list(greatest(game(), 0, 0))),
            "accepts_least": (game(), 0, 0, greatest(game(), 0, 0))},
        "grammars": {
            "is_grammar": (list(grammar),), "is_plain": (grammar,), "graph_of_grammar": (grammar,), "word_chance": (grammar, "aa"),
            "length_chance": (grammar, 3), "best_tree": (grammar, "aaa"), "rule_uses": (grammar, "aa")},
        "beginnings": {"beginning_chance": (grammar, words, "aa"), "next_letters": (grammar, words, "aa")},
        "alike": {
            "alike": (chain, start, (0, 1)), "alike_classes": (chain,), "merged": (chain,), "first_difference": (game_chain(), start, (0, 1))},
        "resting": {
            "rests_on": (chain, (0, 0, 0)), "branch_uses": (chain, solution, start, 0),
            "accepts_uses": (chain, solution, start, 0, list(branch_uses(chain, solution, start, 0))), "uses": (chain, solution, (0, 0, 0), start),
            "slope_of": (chain, solution, (0, 0, 0), start, 0, 1)},
        "ledger": {"replay": (chain, edits)},
        "scanning": {"scan": (TEXT,)},
        "reading": {"next_tokens": ("proc a() { x",), "read_program": (TEXT,)},
        "writing": {"program_text": (program,)},
        "unfolding": {"graph_of": (program,), "instances": (program,), "situation": (program, (0, 1))},
    }


def game_chain():
    """Return a chain of one procedure without calls."""
    toss = ("draw", (((1, 2), 2), ((1, 2), 3)))
    return Graph(procedures=((2, (("draw", (((1, 3), 0), ((2, 3), 1))), toss, ("exit", 0), ("exit", 1))),))


def shown(value):
    """Return a value with all objects in it told by what they hold, as a copy."""
    if isinstance(value, Graph):
        return ("Graph", value.procedures)
    if isinstance(value, Program):
        return ("Program", value.procedures, [value.place_of(number) for number in range(6)])
    if isinstance(value, Ledger):
        return ("Ledger", state_of(value))
    if isinstance(value, (list, tuple)):
        return value.__class__([shown(one) for one in value])
    return copy.deepcopy(value)


def spoil(value):
    """Change all lists in a value."""
    if isinstance(value, (list, tuple)):
        for one in value:
            spoil(one)
    if isinstance(value, list):
        value.append("more")
        value.reverse()


def is_plain(value):
    """Return True if a value consists of the kinds of point 3, and of the objects of the interface."""
    if isinstance(value, (list, tuple)):
        return value.__class__ in (list, tuple) and all([is_plain(one) for one in value])
    return value is None or value.__class__ in (int, str, bool, Graph, Program, Ledger)


class CallsTest(unittest.TestCase):
    def test_there_is_a_call_of_each_function(self):
        self.assertEqual({word: set(rows) for word, rows in calls().items()}, {word: set(rows) for word, rows in FUNCTIONS.items()})

    def test_equal_calls_return_equal_results(self):
        for word, rows in calls().items():
            for name, arguments in rows.items():
                function = getattr(importlib.import_module(f"oddscall.{word}"), name)
                before = shown(arguments)
                found = function(*arguments)
                wanted = shown(found)
                self.assertTrue(is_plain(found), name)
                self.assertEqual(shown(arguments), before, name)
                spoil(found)
                again = function(*arguments)
                self.assertEqual(shown(again), wanted, name)
                self.assertEqual(shown(arguments), before, name)
                spoil(again)
                # The same with arguments that are equal, but made anew.
                self.assertEqual(shown(function(*calls()[word][name])), wanted, name)

    def test_changed_arguments(self):
        # Lists that were given are not kept.
        edits = [((0, 3), ("stop",))]
        ledger = calls_of("ledger", "replay", walk(), edits)
        before = state_of(ledger)
        edits.clear()
        self.assertEqual(state_of(ledger), before)
        orders = ([0], [[0, 2, 1, 3]])
        graph = calls_of("changes", "renamed", walk(), *orders)
        wanted = graph.procedures
        spoil(orders)
        self.assertEqual(graph.procedures, wanted)

    def test_methods(self):
        graph = all_kinds()
        for name in METHODS:
            arguments = ((0, 0),) if METHODS[name] else ()
            wanted = shown(getattr(graph, name)(*arguments))
            spoil(getattr(graph, name)(*arguments))
            self.assertEqual(shown(getattr(graph, name)(*arguments)), wanted, name)
        ledger = Ledger(walk())
        ledger.record(solve(walk()), (0, 0), 0)
        ledger.record(solve(walk()), (0, 3), 0)
        for name, arguments in (("graph", ()), ("fact", (0,)), ("stands", (0,)), ("standing", ()), ("falling", ((0, 3),)), ("rests_on", ((0, 0),)),
                                ("edits", ()), ("copy", ())):
            before = state_of(ledger)
            wanted = shown(getattr(ledger, name)(*arguments))
            spoil(getattr(ledger, name)(*arguments))
            self.assertEqual(shown(getattr(ledger, name)(*arguments)), wanted, name)
            self.assertEqual(state_of(ledger), before)
        self.assertEqual(set(LEDGER_METHODS), {"graph", "fact", "stands", "standing", "falling", "rests_on", "edits", "copy", "record", "edit", "undo"})

    def test_lists_in_lists(self):
        found = next_letters(one_letter(), solve(graph_of_grammar(one_letter())), "a")
        self.assertEqual([pair.__class__ for pair in found], [tuple])
        found = calls_of("grammars", "best_tree", one_letter(), "aa")
        self.assertEqual((found.__class__, found[1].__class__), (tuple, list))
        found = calls_of("grammars", "rule_uses", one_letter(), "aa")
        self.assertEqual([row.__class__ for row in found], [list])
        found = calls_of("alike", "alike_classes", walk())
        self.assertEqual(([row.__class__ for row in found], found[0][0].__class__), ([list], tuple))


def calls_of(word, name, *arguments):
    """Return the result of a call of a function of a file."""
    return getattr(importlib.import_module(f"oddscall.{word}"), name)(*arguments)


class ErrorsTest(unittest.TestCase):
    def test_errors_change_nothing(self):
        chain, solution, grammar = walk(), solve(walk()), one_letter()
        program = read_program("proc a() { " + "reward 1;" * 16 + "}")
        ledger = Ledger(walk())
        ledger.record(solution, (0, 0), 0)
        for word, name, arguments, wanted in (
                ("changes", "renamed", (chain, [0], [[1, 0, 2, 3]]), ("BadValue", "points")),
                ("solving", "solve", (three_calls(),), ("NotTold", ("part", 1))),
                ("solving", "solve", (two_roots(((1, 4), (1, 2)), ((1, 3), (1, 2))),), ("TooLarge", "field")),
                ("observing", "rejecting", (chain, [(0, 9)]), ("BadValue", "places")),
                ("deciding", "greatest", (all_kinds(), 0, 0), ("NotTold", ("call", 0, 2))),
                ("grammars", "word_chance", (grammar, "A"), ("BadValue", "word")),
                ("beginnings", "next_letters", (grammar, [solution], "a"), ("BadValue", "solution")),
                ("alike", "first_difference", (chain, (0, 0), (0, 1)), ("NotTold", ("calls",))),
                ("resting", "slope_of", (chain, solution, (0, 0, 0), (0, 0), 1, 1), ("BadValue", "second")),
                ("ledger", "replay", (chain, [((0, 3), ("stop",)), ((0, 3), ("exit", 1))]), ("BadGraph", (0, 3), "exit")),
                ("scanning", "scan", ("a A",), ("TextError", 1, 3, "no token begins here")),
                ("reading", "read_program", ("proc a() { x = 1; }",), ("TextError", 1, 12, "this name is unknown")),
                ("unfolding", "graph_of", (program,), ("TooLarge", "points"))):
            before = shown(arguments)
            function = getattr(importlib.import_module(f"oddscall.{word}"), name)
            self.assertEqual(error_of(function, *arguments), wanted)
            self.assertEqual(shown(arguments), before)
            self.assertEqual(error_of(function, *arguments), wanted)
        before = state_of(ledger)
        self.assertEqual(error_of(ledger.edit, (0, 3), ("exit", 1)), ("BadGraph", (0, 3), "exit"))
        self.assertEqual(error_of(ledger.record, solution, (0, 3), 7), ("BadValue", "way"))
        self.assertEqual(state_of(ledger), before)

    def test_all_errors_of_the_package(self):
        found = {}
        for path in sorted(PACKAGE.glob("*.py")):
            tree = ast.parse(path.read_text(encoding="utf-8"))
            for node in ast.walk(tree):
                if isinstance(node, ast.ClassDef) and node.bases:
                    found[node.name] = [base.id for base in node.bases]
                if isinstance(node, ast.Raise) and node.exc is not None:
                    self.assertIn(node.exc.func.id, ("BadValue", "BadGraph", "NotTold", "TooLarge", "TextError"), path.name)
        below = (BadValue, BadGraph, NotTold, TooLarge, TextError)
        self.assertEqual(found, {"OddsError": ["ValueError"], **{one.__name__: ["OddsError"] for one in below}})
        self.assertTrue(all([issubclass(one, OddsError) and issubclass(one, ValueError) for one in below]))


class FilesTest(unittest.TestCase):
    def test_there_is_no_clock_no_chance_and_no_file(self):
        for path in sorted(PACKAGE.glob("*.py")):
            for node in ast.walk(ast.parse(path.read_text(encoding="utf-8"))):
                if isinstance(node, (ast.Import, ast.ImportFrom)):
                    self.assertTrue(isinstance(node, ast.ImportFrom), path.name)
                    self.assertTrue(node.module.split(".")[0] in ("oddscall", "math", "heapq", "itertools", "collections"), path.name)
                if isinstance(node, ast.Name):
                    self.assertNotIn(node.id, ("open", "print", "input", "hash", "id", "exec", "eval"), path.name)

    def test_tests_stand_beside_the_package(self):
        self.assertEqual([path.name for path in PACKAGE.iterdir() if "test" in path.name], [])


if __name__ == "__main__":
    unittest.main()
