"""Points 98 to 101 and 103 to 107, and oddscall/grammars.py."""

import random
import unittest
from fractions import Fraction

from oddscall.chances import chance
from oddscall.grammars import best_tree, graph_of_grammar, is_grammar, is_plain, length_chance, rule_uses, word_chance
from oddscall.graphs import Graph
from oddscall.solving import solve
from tests.helpers import ODD_VALUES, error_of, fraction, rational
from tests.wordings import (
    derivations, finite_grammar, greatest_grammar, one_letter, random_grammar, rooted_grammar, two_letters, words_of)

ZERO = (0, 1)


def samples():
    """Return plain grammars."""
    return [one_letter(), two_letters(), rooted_grammar(), finite_grammar()] + [random_grammar(seed) for seed in range(25)]


def with_rule(symbols):
    """Return a grammar whose first rule has these symbols."""
    return ((((1, 2), symbols), ((1, 2), ("b",))), (((1, 1), ("a",)),))


def with_chances(*chances):
    """Return a grammar of one variable, with a rule for each chance."""
    return (tuple([(one, ("a",)) for one in chances]),)


def of_sizes(*rows):
    """Return a grammar with a variable for each row, which has the sizes of its rules."""
    return tuple([tuple([((1, len(row)), ("a",) * size) for size in row]) for row in rows])


class GrammarTest(unittest.TestCase):
    def test_grammars(self):
        for grammar in samples() + [greatest_grammar(), with_rule(()), with_rule((1,)), with_rule((0,))]:
            self.assertIs(is_grammar(grammar), True, grammar)
        for seed in range(40):
            self.assertIs(is_grammar(random_grammar(seed, plain=False)), True)

    def test_values_of_other_kinds(self):
        rule = ((1, 1), ("a",))
        for value in ODD_VALUES + (
                0, "grammar", (rule,), ((rule,), ()), [(rule,)], ([rule],), ((list(rule),),), ((((1, 1), ["a"]),),), ((([1, 1], ("a",)),),),
                ((((1, 1),),),), ((((1, 1), ("a",), 0),),), (((None, ("a",)),),), (((1, ("a",)),),), ((((1, 1), None),),), ((((1, 1), "a"),),),
                ((rule,), None), ((rule,), (rule, None))):
            self.assertIs(is_grammar(value), False, value)

    def test_symbols(self):
        for symbol in ("a", "m", "z", 0, 1):
            self.assertIs(is_grammar(with_rule((symbol,))), True, symbol)
        for symbol in (True, False, None, "ab", "A", "Z", "", " ", "1", "_", "`", "{", "\u00e4", "\u0430", ("a",), ["a"], -1, 2, (0,), b"a"):
            self.assertIs(is_grammar(with_rule((symbol,))), False, symbol)
            self.assertIs(is_grammar(with_rule(("a", 0, symbol))), False, symbol)

    def test_chances(self):
        self.assertIs(is_grammar(with_chances((1, 60), (59, 60))), True)
        self.assertIs(is_grammar(with_chances((1, 61), (60, 61))), False)
        for chances in (((1, 2),), ((1, 2), (1, 3)), ((1, 2), (2, 3)), ((0, 1), (1, 1)), ((1, 1), (0, 1)), ((2, 4), (1, 2)), ((3, 2), (-1, 2)),
                        ((True, 1),), ((1, True),), ((1, 1), (1, 1)), (1,), ("1",)):
            self.assertIs(is_grammar(with_chances(*chances)), False, chances)
        # Each variable has the total 1.
        self.assertIs(is_grammar(with_chances((1, 2), (1, 2)) + with_chances((1, 2))), False)

    def test_bounds(self):
        for right, wrong in (
                (of_sizes(*[(1,)] * 6), of_sizes(*[(1,)] * 7)),
                (of_sizes((1, 1, 1, 1)), of_sizes((1, 1, 1, 1, 1))),
                (of_sizes((4,)), of_sizes((5,))),
                (of_sizes(*[(1, 1)] * 6), of_sizes((1, 1, 1), *[(1, 1)] * 5)),
                (of_sizes((4, 4, 4, 2)), of_sizes((4, 4, 4, 3))),
                (of_sizes((4, 4, 4, 2), (4, 4, 4, 2), (4, 2)), of_sizes((4, 4, 4, 2), (4, 4, 4, 2), (4, 3))),
                (of_sizes(*[(4, 1)] * 4, (4, 0), (4, 0)), of_sizes(*[(4, 1)] * 5, (4, 0)))):
            self.assertIs(is_grammar(right), True, right)
            self.assertIs(is_grammar(wrong), False, wrong)
        self.assertIs(is_grammar(()), False)
        self.assertIs(is_grammar(((),)), False)
        self.assertIs(is_grammar(of_sizes((0,))), True)

    def test_plain(self):
        for grammar in samples() + [greatest_grammar(), with_rule((1, 1)), with_rule(("a",)), with_rule((0, "a"))]:
            self.assertIs(is_plain(grammar), True, grammar)
        for grammar in (with_rule(()), with_rule((0,)), with_rule((1,)), ((((1, 1), ("a",)),), (((1, 1), ()),)),
                        ((((1, 1), ("a",)),), (((1, 1), (1,)),))):
            self.assertIs(is_plain(grammar), False, grammar)


class GraphTest(unittest.TestCase):
    def test_the_example(self):
        points = (("draw", (((1, 3), 1), ((2, 3), 3))), ("call", 0, (2,)), ("call", 0, (4,)), ("reward", (1, 1), 4), ("exit", 0))
        found = graph_of_grammar(one_letter())
        self.assertIsInstance(found, Graph)
        self.assertEqual(found.procedures, ((1, points),))

    def test_empty_rules(self):
        grammar = ((((1, 2), ()), ((1, 4), (1, "a")), ((1, 4), ())), (((1, 1), ()),))
        first = (("draw", (((1, 2), 3), ((1, 4), 1), ((1, 4), 3))), ("call", 1, (2,)), ("reward", (1, 1), 3), ("exit", 0))
        self.assertEqual(graph_of_grammar(grammar).procedures, ((1, first), (1, (("draw", (((1, 1), 1),)), ("exit", 0)))))

    def test_two_letters(self):
        second = (
            ("draw", (((1, 2), 1), ((1, 3), 2), ((1, 6), 4))), ("reward", (1, 1), 8), ("reward", (1, 1), 3), ("reward", (1, 1), 8),
            ("call", 1, (5,)), ("call", 1, (6,)), ("reward", (1, 1), 7), ("call", 0, (8,)), ("exit", 0))
        self.assertEqual(graph_of_grammar(two_letters()).procedures[1], (1, second))

    def test_the_greatest_grammar(self):
        grammar = greatest_grammar()
        self.assertEqual((len(grammar), sum([len(rules) for rules in grammar])), (6, 12))
        self.assertEqual(sum([len(symbols) for rules in grammar for _, symbols in rules]), 28)
        self.assertEqual(len(graph_of_grammar(grammar).places()), 40)
        found = graph_of_grammar(of_sizes((4, 4, 4, 2), (4, 4, 4, 2), (4, 2)))
        self.assertEqual([len(points) for _, points in found.procedures], [16, 16, 8])
        self.assertEqual(len(graph_of_grammar(of_sizes(*[(4, 1)] * 4, (4, 0), (4, 0))).places()), 40)

    def test_the_chance_of_the_exit_is_that_of_all_trees(self):
        grammar = finite_grammar()
        graph = graph_of_grammar(grammar)
        self.assertEqual(chance(graph, solve(graph), (0, 0), 0), ("rational", (1, 1)))
        graph = graph_of_grammar(rooted_grammar())
        solution = solve(graph)
        self.assertEqual(chance(graph, solution, (0, 0), 0), ("root", (1, -4, 2), 0))
        self.assertEqual(chance(graph, solution, (1, 0), 0), ("rational", (0, 1)))


class WordTest(unittest.TestCase):
    def test_the_examples(self):
        self.assertEqual(word_chance(one_letter(), "aa"), (4, 27))
        self.assertEqual(length_chance(one_letter(), 3), (16, 243))
        self.assertEqual(best_tree(one_letter(), "aaa"), ((8, 243), [(0, 0), (0, 0), (0, 1), (0, 1), (0, 1)]))
        self.assertEqual(rule_uses(one_letter(), "aa"), [[(1, 1), (2, 1)]])

    def test_the_empty_word(self):
        for grammar in samples():
            self.assertEqual((word_chance(grammar, ""), length_chance(grammar, 0)), (ZERO, ZERO))
            self.assertEqual((best_tree(grammar, ""), rule_uses(grammar, "")), (None, None))

    def test_against_all_derivations(self):
        for grammar in samples():
            for word in words_of("ab", 5) + ["c", "abcab"]:
                self.check(grammar, word)

    def test_long_words(self):
        dice = random.Random(5)
        for grammar in samples():
            for _ in range(3):
                self.check(grammar, "".join([dice.choice("ab") for _ in range(dice.randrange(6, 9))]))
            self.check(grammar, "a" * 8)

    def check(self, grammar, word):
        """Check all that is told of a word against its derivations."""
        found = derivations(grammar, word)
        total = sum([one for one, _ in found], Fraction(0))
        self.assertEqual(word_chance(grammar, word), rational(total))
        if found == []:
            self.assertEqual((best_tree(grammar, word), rule_uses(grammar, word)), (None, None))
            return
        best = max([one for one, _ in found])
        outline = min([outline for one, outline in found if one == best])
        self.assertEqual(best_tree(grammar, word), (rational(best), outline))
        wanted = []
        for variable, rules in enumerate(grammar):
            numbers = [sum([one * outline.count((variable, index)) for one, outline in found]) for index in range(len(rules))]
            wanted.append([rational(Fraction(number) / total) for number in numbers])
        self.assertEqual(rule_uses(grammar, word), wanted)

    def test_lengths(self):
        for grammar in samples():
            for length in range(6):
                words = [word for word in words_of("ab", length) if len(word) == length]
                total = sum([fraction(word_chance(grammar, word)) for word in words])
                self.assertEqual(length_chance(grammar, length), rational(total))

    def test_the_length_12(self):
        # The trees of the document with 12 letters have 11 rules of two variables, and there are 58786 of them.
        self.assertEqual(length_chance(one_letter(), 12), rational(Fraction(58786) * Fraction(1, 3) ** 11 * Fraction(2, 3) ** 12))
        self.assertEqual(length_chance(finite_grammar(), 12), ZERO)
        for grammar in samples()[:8]:
            total = sum([fraction(length_chance(grammar, length)) for length in range(13)])
            self.assertLessEqual(total, 1)

    def test_the_lengths_of_a_finite_grammar_are_all(self):
        self.assertEqual(sum([fraction(length_chance(finite_grammar(), length)) for length in range(13)]), 1)
        self.assertEqual(sum([fraction(word_chance(finite_grammar(), word)) for word in words_of("ab", 7)]), 1)

    def test_ties_of_best_trees(self):
        # Two rules with the same chance and the same word, and two places at which a longer tree can stand.
        self.assertEqual(best_tree(((((1, 2), ("a",)), ((1, 2), ("a",))),), "a"), ((1, 2), [(0, 0)]))
        grammar = ((((1, 4), (1, 1)), ((1, 4), ("a", 1)), ((1, 2), (1, "a"))), (((1, 2), ("a",)), ((1, 2), ("a", "a"))))
        self.assertEqual(best_tree(grammar, "aaa"), ((1, 4), [(0, 2), (1, 1)]))
        grammar = ((((1, 1), (1, 1)),), (((1, 2), ("a", "a")), ((1, 2), ("a",))))
        self.assertEqual(best_tree(grammar, "aaa"), ((1, 4), [(0, 0), (1, 0), (1, 1)]))
        grammar = ((((1, 1), (1, 1)),), (((1, 2), ("a",)), ((1, 2), ("a", "a"))))
        self.assertEqual(best_tree(grammar, "aaa"), ((1, 4), [(0, 0), (1, 0), (1, 1)]))
        self.assertEqual(best_tree(one_letter(), "aaaa")[1], [(0, 0)] * 3 + [(0, 1)] * 4)

    def test_sums_of_uses(self):
        for grammar in samples():
            for word in words_of("ab", 4) + ["abababab", "aaaabbbb", "baaabaab"]:
                uses = rule_uses(grammar, word)
                if uses is None:
                    continue
                named = [(fraction(use), symbols) for row, rules in zip(uses, grammar) for use, (_, symbols) in zip(row, rules)]
                letters = sum([use * len([symbol for symbol in symbols if isinstance(symbol, str)]) for use, symbols in named])
                self.assertEqual(letters, len(word))
                for variable in range(len(grammar)):
                    total = sum([use * symbols.count(variable) for use, symbols in named]) + (variable == 0)
                    self.assertEqual(sum([fraction(use) for use in uses[variable]]), total)

    def test_the_greatest_grammar(self):
        grammar = greatest_grammar()
        for word in ("abababab", "bbbbbbbb", "babbabab"):
            self.check(grammar, word)
        self.assertGreater(fraction(length_chance(grammar, 12)), 0)

    def test_many_derivations(self):
        # The word has 429 * 3 ** 7 derivations.
        grammar = ((((1, 5), (0, 0)), ((1, 5), (0, 0)), ((1, 5), (0, 0)), ((2, 5), ("a",))),)
        total = Fraction(429 * 3 ** 7) * Fraction(1, 5) ** 7 * Fraction(2, 5) ** 8
        self.assertEqual(word_chance(grammar, "a" * 8), rational(total))
        self.assertEqual(rule_uses(grammar, "a" * 8), [[(7, 3), (7, 3), (7, 3), (8, 1)]])
        self.assertEqual(best_tree(grammar, "a" * 8)[1], [(0, 0)] * 7 + [(0, 3)] * 8)


class RenamingTest(unittest.TestCase):
    def renamed(self, grammar):
        """Return the grammar with the letters a and b exchanged for z and q."""
        table = {"a": "z", "b": "q"}
        return tuple([tuple([(one, tuple([table.get(symbol, symbol) for symbol in row])) for one, row in rules]) for rules in grammar])

    def test_letters(self):
        for grammar in samples()[:12]:
            for word in words_of("ab", 4):
                other = word.replace("a", "z").replace("b", "q")
                self.assertEqual(word_chance(grammar, word), word_chance(self.renamed(grammar), other))
                self.assertEqual(best_tree(grammar, word), best_tree(self.renamed(grammar), other))
                self.assertEqual(rule_uses(grammar, word), rule_uses(self.renamed(grammar), other))
            self.assertEqual(length_chance(grammar, 7), length_chance(self.renamed(grammar), 7))

    def test_variables_that_are_not_reached(self):
        for more in ((((1, 1), ("a", 0)),), (((1, 2), ("b",)), ((1, 2), (1, 1)))):
            grammar = one_letter() + (more,)
            for word in words_of("ab", 4):
                self.assertEqual(word_chance(grammar, word), word_chance(one_letter(), word))
                self.assertEqual(best_tree(grammar, word), best_tree(one_letter(), word))
            self.assertEqual(length_chance(grammar, 12), length_chance(one_letter(), 12))
            self.assertEqual(rule_uses(grammar, "aaa"), rule_uses(one_letter(), "aaa") + [[ZERO] * len(more)])


class WrongArgumentsTest(unittest.TestCase):
    WORDS = (word_chance, best_tree, rule_uses)

    def test_grammars(self):
        for value in ODD_VALUES + (0, with_chances((1, 2)), of_sizes((5,))):
            for function in (is_plain, graph_of_grammar):
                self.assertEqual(error_of(function, value), ("BadValue", "grammar"), value)
            for function in self.WORDS + (length_chance,):
                self.assertEqual(error_of(function, value, None), ("BadValue", "grammar"), value)

    def test_grammars_that_are_not_plain(self):
        for grammar in (with_rule(()), with_rule((1,))):
            for function in self.WORDS + (length_chance,):
                self.assertEqual(error_of(function, grammar, None), ("NotTold", ("plain",)))
                self.assertEqual(error_of(function, grammar, "a"), ("NotTold", ("plain",)))
            self.assertIsNone(error_of(graph_of_grammar, grammar))

    def test_words(self):
        for value in (None, True, 0, (), [], ["a"], ("a",), "A", "aB", "a1", "1", "a b", " ", "a\n", "\u00e4", "a\u0430", "a" * 9, b"a", b""):
            for function in self.WORDS:
                self.assertEqual(error_of(function, one_letter(), value), ("BadValue", "word"), value)
        for function in self.WORDS:
            self.assertIsNone(error_of(function, one_letter(), "z" * 8))

    def test_lengths(self):
        for value in ODD_VALUES + (-1, 13, 100, "1", (1,)):
            self.assertEqual(error_of(length_chance, one_letter(), value), ("BadValue", "length"), value)
        self.assertIsNone(error_of(length_chance, one_letter(), 12))


class NewListsTest(unittest.TestCase):
    def test_changed_lists(self):
        found = best_tree(one_letter(), "aaa")
        found[1].clear()
        self.assertEqual(best_tree(one_letter(), "aaa")[1], [(0, 0), (0, 0), (0, 1), (0, 1), (0, 1)])
        found = rule_uses(two_letters(), "ba")
        wanted = [list(row) for row in found]
        found[0].clear()
        found.pop()
        self.assertEqual(rule_uses(two_letters(), "ba"), wanted)


if __name__ == "__main__":
    unittest.main()
