"""Points 102, 106 and 107, and oddscall/beginnings.py."""

import unittest
from fractions import Fraction

from oddscall.beginnings import beginning_chance, next_letters
from oddscall.chances import chance
from oddscall.errors import OddsError
from oddscall.fields import add
from oddscall.grammars import graph_of_grammar, word_chance
from oddscall.judging import accepts
from oddscall.numbers import compare_numbers, element_of, number_of
from oddscall.solving import solve
from tests.helpers import ODD_VALUES, error_of, fraction, rational
from tests.told import sharp
from tests.wordings import finite_grammar, greatest_grammar, one_letter, random_grammar, rooted_grammar, words_of

ZERO = ("rational", (0, 1))
SLACK = Fraction(1, 10 ** 40)


def solved(grammar):
    """Return a solution of the graph of the grammar."""
    return solve(graph_of_grammar(grammar))


def never_ending():
    """Return a plain grammar with a variable that goes on to the left for ever, and so never ends."""
    return ((((1, 2), ("b",)), ((1, 4), (1, "a")), ((1, 4), ("a", 0))), (((1, 1), (1, 2)),), (((1, 1), ("a",)),))


def left_loops():
    """Return a plain grammar in which two variables begin with each other, and one with itself."""
    return (
        (((1, 3), (1, "b")), ((1, 3), ("a",)), ((1, 3), (0, "a"))),
        (((1, 2), (0, 2)), ((1, 4), ("b",)), ((1, 4), (1, 0, "a"))),
        (((1, 1), ("b", "b")),),
    )


def samples():
    """Return plain grammars with solutions of their graphs."""
    found = []
    for grammar in [one_letter(), rooted_grammar(), finite_grammar(), never_ending(), left_loops()]:
        found.append((grammar, solved(grammar)))
    for seed in range(60):
        try:
            found.append((random_grammar(seed), solved(random_grammar(seed))))
        except OddsError:
            continue
    return found


def exact(number):
    """Return the number as a fraction, up to about 60 digits if it is a root."""
    return sharp(*element_of(number))


class BeginningTest(unittest.TestCase):
    def test_the_examples(self):
        solution = solved(one_letter())
        self.assertEqual(beginning_chance(one_letter(), solution, ""), ("rational", (1, 1)))
        self.assertEqual(beginning_chance(one_letter(), solution, "aa"), ("rational", (1, 3)))
        self.assertEqual(next_letters(one_letter(), solution, "aa"), [("a", ("rational", (5, 27)))])

    def test_the_empty_beginning(self):
        for grammar, solution in samples():
            wanted = chance(graph_of_grammar(grammar), solution, (0, 0), 0)
            self.assertEqual(beginning_chance(grammar, solution, ""), wanted)

    def test_a_finite_grammar(self):
        grammar, solution = finite_grammar(), solved(finite_grammar())
        words = {word: fraction(word_chance(grammar, word)) for word in words_of("ab", 7)}
        for word in words_of("ab", 6):
            total = sum([one for other, one in words.items() if other.startswith(word)])
            self.assertEqual(beginning_chance(grammar, solution, word), ("rational", rational(total)))

    def test_the_chances_add_up(self):
        for grammar, solution in samples():
            for word in words_of("ab", 3) + ["abaab", "bbbbb", "aaaaa", "babab"]:
                found = next_letters(grammar, solution, word)
                total = Fraction(0) if word == "" else fraction(word_chance(grammar, word))
                total += sum([exact(number) for _, number in found])
                self.assertLessEqual(abs(exact(beginning_chance(grammar, solution, word)) - total), SLACK)

    def test_next_letters_are_beginnings(self):
        for grammar, solution in samples()[:15]:
            for word in words_of("ab", 3) + ["abbab"]:
                wanted = [(letter, beginning_chance(grammar, solution, word + letter)) for letter in "ab"]
                self.assertEqual(next_letters(grammar, solution, word), [pair for pair in wanted if pair[1] != ZERO])

    def test_the_words_come_near(self):
        for grammar, solution in samples():
            words = {word: fraction(word_chance(grammar, word)) for word in words_of("ab", 8 if len(grammar) < 2 else 6)}
            left = exact(beginning_chance(grammar, solution, "")) - sum(words.values())
            for word in ("a", "b", "ab", "aaa", "bab", "abab"):
                low = sum([one for other, one in words.items() if other.startswith(word)])
                found = exact(beginning_chance(grammar, solution, word))
                self.assertLessEqual(low, found + SLACK)
                self.assertLessEqual(found, low + left + SLACK)

    def test_roots(self):
        grammar, solution = rooted_grammar(), solved(rooted_grammar())
        self.assertEqual(beginning_chance(grammar, solution, ""), ("root", (1, -4, 2), 0))
        self.assertEqual(beginning_chance(grammar, solution, "a"), ("root", (1, -4, 2), 0))
        # x less the word of one letter, and x a half of what is left for the rest of a longer one
        self.assertEqual(beginning_chance(grammar, solution, "aa"), number_of(2, ((3, 4), (-1, 2))))
        self.assertEqual(next_letters(grammar, solution, "a"), [("a", number_of(2, ((3, 4), (-1, 2))))])
        self.assertEqual(beginning_chance(grammar, solution, "b"), ZERO)

    def test_variables_that_never_end(self):
        grammar, solution = never_ending(), solved(never_ending())
        self.assertEqual(beginning_chance(grammar, solution, ""), ("rational", (2, 3)))
        self.assertEqual(beginning_chance(grammar, solution, "b"), ("rational", (1, 2)))
        self.assertEqual(beginning_chance(grammar, solution, "aa"), ("rational", (1, 24)))
        self.assertEqual(next_letters(grammar, solution, "b"), [])
        self.assertEqual(next_letters(grammar, solution, "aab"), [])
        self.assertEqual([letter for letter, _ in next_letters(grammar, solution, "aaaaa")], ["a", "b"])

    def test_letters_in_their_order(self):
        grammar = ((((1, 4), ("q", "z")), ((1, 4), ("c", "d")), ((1, 4), ("q", "b")), ((1, 4), ("m", 1))), (((1, 1), ("x",)),))
        quarter, half = ("rational", (1, 4)), ("rational", (1, 2))
        self.assertEqual(next_letters(grammar, solved(grammar), ""), [("c", quarter), ("m", quarter), ("q", half)])
        self.assertEqual(next_letters(grammar, solved(grammar), "q"), [("b", quarter), ("z", quarter)])
        self.assertEqual(next_letters(grammar, solved(grammar), "m"), [("x", quarter)])
        self.assertEqual(next_letters(grammar, solved(grammar), "mx"), [])
        self.assertEqual(next_letters(grammar, solved(grammar), "w"), [])

    def test_the_greatest_words(self):
        for grammar, solution in samples():
            for word in ("aaaaaa", "ababab", "bbabba"):
                number = beginning_chance(grammar, solution, word)
                self.assertGreaterEqual(exact(number) + SLACK, fraction(word_chance(grammar, word)))
                self.assertLessEqual(compare_numbers(number, beginning_chance(grammar, solution, word[:5])), 0)

    def test_the_greatest_grammars(self):
        self.assertEqual(error_of(beginning_chance, greatest_grammar(), None, "a")[0], "NotTold")
        rows = [(((1, 3), (0, 0)), ((2, 3), ("a",)))] + [(((7, 20), (number, "b")), ((13, 20), (number - 1,) * 3)) for number in range(1, 6)]
        grammar = tuple([tuple([(one, tuple([self.turned(symbol) for symbol in row])) for one, row in rules]) for rules in reversed(rows)])
        self.assertEqual(len(graph_of_grammar(grammar).places()), 2 * 6 + 3 + 5 * 5)
        solution = solved(grammar)
        found = next_letters(grammar, solution, "aaaaa")
        self.assertEqual([letter for letter, _ in found], ["a", "b"])

    def turned(self, symbol):
        """Return the symbol with the last variable as the first one."""
        return symbol if isinstance(symbol, str) else 5 - symbol

    def test_the_solution_does_not_matter(self):
        grammar = rooted_grammar()
        graph = graph_of_grammar(grammar)
        field, values, rows = solve(graph)
        other = (field, values, tuple([tuple([add(field, one, one) for one in row]) for row in rows]))
        self.assertTrue(accepts(graph, other))
        for word in ("", "a", "aa", "aaaa"):
            self.assertEqual(beginning_chance(grammar, other, word), beginning_chance(grammar, (field, values, rows), word))

    def test_renamed_letters_and_variables_that_are_not_reached(self):
        grammar = left_loops()
        other = tuple([tuple([(one, tuple([{"a": "z", "b": "c"}.get(symbol, symbol) for symbol in row])) for one, row in rules])
                       for rules in grammar]) + ((((1, 2), ("b", 3)), ((1, 2), ("y",))),)
        for word in words_of("ab", 3):
            renamed = word.replace("a", "z").replace("b", "c")
            wanted = beginning_chance(grammar, solved(grammar), word)
            self.assertEqual(beginning_chance(other, solved(other), renamed), wanted)


class WrongArgumentsTest(unittest.TestCase):
    def errors(self, grammar, solution, word):
        return [error_of(function, grammar, solution, word) for function in (beginning_chance, next_letters)]

    def test_grammars(self):
        for value in ODD_VALUES + (0, ((((1, 2), ("a",)),),)):
            self.assertEqual(self.errors(value, None, None), [("BadValue", "grammar")] * 2, value)

    def test_grammars_that_are_not_plain(self):
        for symbols in ((), (0,)):
            grammar = ((((1, 2), symbols), ((1, 2), ("a",))),)
            self.assertEqual(self.errors(grammar, solved(grammar), "a"), [("NotTold", ("plain",))] * 2)

    def test_grammars_whose_graph_is_not_told(self):
        grammar = ((((1, 2), (0, 0, 0)), ((1, 2), ("a",))),)
        self.assertEqual(self.errors(grammar, None, None), [("NotTold", ("part", 2))] * 2)

    def test_solutions(self):
        field, values, rows = solved(one_letter())
        for value in ODD_VALUES + ((field, values, ()), [field, values, rows], solved(rooted_grammar())):
            self.assertEqual(self.errors(one_letter(), value, None), [("BadValue", "solution")] * 2, value)

    def test_words(self):
        solution = solved(one_letter())
        for value in (None, True, 0, (), [], ["a"], ("a",), "A", "aB", "a1", "a ", "\u00e4", "a\u0430", "a" * 7, b"a"):
            self.assertEqual(self.errors(one_letter(), solution, value), [("BadValue", "word")] * 2, value)
        self.assertIsNone(error_of(beginning_chance, one_letter(), solution, "a" * 6))
        self.assertIsNone(error_of(next_letters, one_letter(), solution, "a" * 5))
        self.assertEqual(error_of(next_letters, one_letter(), solution, "a" * 6), ("BadValue", "word"))

    def test_a_new_list(self):
        solution = solved(one_letter())
        found = next_letters(one_letter(), solution, "a")
        wanted = list(found)
        found.clear()
        self.assertEqual(next_letters(one_letter(), solution, "a"), wanted)


if __name__ == "__main__":
    unittest.main()
