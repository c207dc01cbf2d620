"""The interface: names, parameters, and the files in which they are defined."""

import importlib
import inspect
import unittest

FUNCTIONS = {
    "rationals": {
        "ratio": "n d", "plus": "a b", "minus": "a b", "times": "a b", "over": "a b", "less": "a b", "is_rational": "x"},
    "fields": {
        "is_field": "x", "is_element": "field x", "add": "field a b", "subtract": "field a b", "multiply": "field a b",
        "divide": "field a b", "sign_of": "field a", "root_of": "field a"},
    "numbers": {
        "is_number": "x", "number_of": "field element", "element_of": "number", "number_sign": "number",
        "compare_numbers": "first second", "floor_of": "number q"},
    "changes": {
        "renamed": "graph procedures points", "old_place": "procedures points place", "reached_graph": "graph"},
    "following": {"follow": "graph place tape"},
    "masses": {
        "mass": "graph place way depth", "lengths": "graph place way depth", "masses": "graph place depth"},
    "equations": {
        "unknowns": "graph", "terms_of": "graph unknown", "positives": "graph", "live_terms": "graph"},
    "parts": {
        "parts": "graph", "cuts": "graph part", "degrees": "graph unknown", "groups_of": "graph unknown", "why_not": "graph"},
    "slopes": {"right_side": "graph unknown field values", "slope": "graph first second field values"},
    "judging": {"accepts": "graph solution"},
    "solving": {"solve": "graph"},
    "chances": {"chance": "graph solution place way", "chance_element": "graph solution place way"},
    "questions": {
        "compare_chance": "graph solution place way number", "compare_chances": "graph solution first second",
        "chance_of_any": "graph solution place ways", "ends_surely": "graph solution place",
        "likeliest_way": "graph solution place", "rest_of": "graph solution place way depth"},
    "depths": {"first_depth": "graph place way rational", "is_beyond": "graph place way rational depth"},
    "rewards": {
        "means": "graph solution what", "accepts_means": "graph solution what answer", "expected": "graph solution what place",
        "mean_at": "graph what place depth"},
    "observing": {
        "endings": "graph solution place", "observed": "graph solution place exit_number", "posterior": "graph solution place",
        "observed_at": "graph place exit_number depth", "observed_draws": "graph solution procedure", "rejecting": "graph places"},
    "strategies": {
        "chain_of": "graph procedure strategy", "greatest_mass": "graph place way depth", "least_mass": "graph place way depth",
        "avoiding": "graph procedure way"},
    "deciding": {
        "greatest": "graph procedure way", "least": "graph procedure way", "accepts_greatest": "graph procedure way evidence",
        "accepts_least": "graph procedure way evidence"},
    "grammars": {
        "is_grammar": "value", "is_plain": "grammar", "graph_of_grammar": "grammar", "word_chance": "grammar word",
        "length_chance": "grammar length", "best_tree": "grammar word", "rule_uses": "grammar word"},
    "beginnings": {"beginning_chance": "grammar solution word", "next_letters": "grammar solution word"},
    "alike": {"alike": "graph one other", "alike_classes": "graph", "merged": "graph", "first_difference": "graph one other"},
    "resting": {
        "rests_on": "graph unknown", "branch_uses": "graph solution draw branch", "accepts_uses": "graph solution draw branch answer",
        "uses": "graph solution unknown draw", "slope_of": "graph solution unknown draw first second"},
    "ledger": {"replay": "graph edits"},
    "scanning": {"scan": "text"},
    "reading": {"next_tokens": "text", "read_program": "text"},
    "writing": {"program_text": "program"},
    "unfolding": {"graph_of": "program", "instances": "program", "situation": "program place"},
}

ERRORS = {
    "BadValue": "name", "BadGraph": "where why", "NotTold": "reason", "TooLarge": "what",
    "TextError": "line column words"}

METHODS = {
    "is_chain": "", "places": "", "is_place": "value", "point_at": "place", "ways": "place", "named": "place",
    "reached": "place"}

LEDGER_METHODS = {
    "graph": "", "record": "solution place way", "edit": "place point", "fact": "number", "stands": "number", "standing": "",
    "falling": "place", "rests_on": "place", "undo": "", "edits": "", "copy": ""}


def parameters(function):
    """Return the names of the parameters, which can all be passed by position or by name."""
    found = []
    for name, parameter in inspect.signature(function).parameters.items():
        assert parameter.kind == inspect.Parameter.POSITIONAL_OR_KEYWORD, (function, name)
        found.append(name)
    return " ".join(found)


class InterfaceTest(unittest.TestCase):
    def test_functions(self):
        for word, names in FUNCTIONS.items():
            module = importlib.import_module(f"oddscall.{word}")
            for name, expected in names.items():
                function = getattr(module, name)
                self.assertTrue(inspect.isfunction(function), name)
                self.assertEqual(function.__module__, f"oddscall.{word}", name)
                self.assertEqual(parameters(function), expected, name)

    def test_errors(self):
        module = importlib.import_module("oddscall.errors")
        self.assertEqual(module.OddsError.__module__, "oddscall.errors")
        for name, expected in ERRORS.items():
            error = getattr(module, name)
            self.assertEqual(error.__module__, "oddscall.errors")
            attributes = expected.split()
            given = error(*attributes)
            for attribute in attributes:
                self.assertEqual(getattr(given, attribute), attribute)

    def test_the_class_graph(self):
        module = importlib.import_module("oddscall.graphs")
        self.assertEqual(module.Graph.__module__, "oddscall.graphs")
        named = inspect.signature(module.Graph).parameters
        self.assertEqual(list(named), ["procedures"])
        self.assertEqual(named["procedures"].kind, inspect.Parameter.KEYWORD_ONLY)
        graph = module.Graph(procedures=((0, (("stop",),)),))
        for name, expected in METHODS.items():
            self.assertIn(name, vars(module.Graph))
            self.assertEqual(parameters(getattr(graph, name)), expected, name)

    def test_the_class_ledger(self):
        module = importlib.import_module("oddscall.ledger")
        graphs = importlib.import_module("oddscall.graphs")
        self.assertEqual(module.Ledger.__module__, "oddscall.ledger")
        self.assertEqual(parameters(module.Ledger), "graph")
        ledger = module.Ledger(graphs.Graph(procedures=((0, (("stop",),)),)))
        for name, expected in LEDGER_METHODS.items():
            self.assertIn(name, vars(module.Ledger))
            self.assertEqual(parameters(getattr(ledger, name)), expected, name)

    def test_the_class_program(self):
        module = importlib.import_module("oddscall.reading")
        self.assertEqual(module.Program.__module__, "oddscall.reading")
        program = module.read_program("proc a() { stop; }")
        self.assertIs(program.__class__, module.Program)
        self.assertEqual(program.procedures, (("a", (), 1, (), (("stop",),)),))
        self.assertIn("place_of", vars(module.Program))
        self.assertEqual(parameters(program.place_of), "statement")


if __name__ == "__main__":
    unittest.main()
