"""Grammars: rules that draw words, and the chances of the words."""

from oddscall.charts import BestTrees, Chances, Chart, Uses
from oddscall.errors import BadValue, NotTold
from oddscall.graphs import Graph
from oddscall.letters import is_letter, is_word
from oddscall.problems import is_chance, is_pair
from oddscall.rationals import ONE, ZERO, over, plus
from oddscall.wholes import is_index

MOST_VARIABLES = 6
MOST_RULES = 4
MOST_SYMBOLS = 4
MOST_RULES_OF_ALL = 12
MOST_SYMBOLS_OF_A_VARIABLE = 14
MOST_PLACES = 40
LONGEST_WORD = 8
GREATEST_LENGTH = 12


def is_grammar(value):
    """Return True if the value is a grammar."""
    if not isinstance(value, tuple) or not 1 <= len(value) <= MOST_VARIABLES:
        return False
    if not all(is_variable(variable, len(value)) for variable in value):
        return False
    sizes = [sum(len(symbols) for _, symbols in variable) for variable in value]
    if sum(len(variable) for variable in value) > MOST_RULES_OF_ALL or max(sizes) > MOST_SYMBOLS_OF_A_VARIABLE:
        return False
    return 2 * len(value) + sum(sizes) <= MOST_PLACES


def is_variable(value, many):
    """Return True if the value is a variable in a grammar of so many variables, but for the bounds of all rules."""
    if not isinstance(value, tuple) or not 1 <= len(value) <= MOST_RULES:
        return False
    total = ZERO
    for rule in value:
        if not is_rule(rule, many):
            return False
        total = plus(total, rule[0])
    return total == ONE


def is_rule(value, many):
    """Return True if the value is a rule in a grammar of so many variables."""
    if not is_pair(value) or not is_chance(value[0]):
        return False
    symbols = value[1]
    if not isinstance(symbols, tuple) or len(symbols) > MOST_SYMBOLS:
        return False
    return all(is_letter(symbol) or is_index(symbol, many) for symbol in symbols)


def is_plain(grammar):
    """Return True if no rule of the grammar is empty, and none is a single variable."""
    check_grammar(grammar)
    for variable in grammar:
        for _, symbols in variable:
            if len(symbols) == 0 or (len(symbols) == 1 and not is_letter(symbols[0])):
                return False
    return True


def graph_of_grammar(grammar):
    """Return the graph of the grammar."""
    check_grammar(grammar)
    return Graph(procedures=tuple([(1, points_of_variable(variable)) for variable in grammar]))


def points_of_variable(variable):
    """Return the points of the procedure for a variable."""
    last = 1 + sum(len(symbols) for _, symbols in variable)
    branches = []
    points = []
    for chance, symbols in variable:
        first = 1 + len(points)
        branches.append((chance, first if len(symbols) > 0 else last))
        for at, symbol in enumerate(symbols):
            behind = first + at + 1 if at + 1 < len(symbols) else last
            points.append(("reward", ONE, behind) if is_letter(symbol) else ("call", symbol, (behind,)))
    return (("draw", tuple(branches)), *points, ("exit", 0))


def word_chance(grammar, word):
    """Return the chance of the word."""
    check_word(grammar, word)
    total = Chart(grammar, word, Chances()).whole()
    return ZERO if total is None else total


def length_chance(grammar, length):
    """Return the chance of the length."""
    check_plain(grammar)
    if not is_index(length, GREATEST_LENGTH + 1):
        raise BadValue("length")
    # If all letters are the same one, the only word of this length has the chances of all words of it together.
    total = Chart(with_one_letter(grammar), "a" * length, Chances()).whole()
    return ZERO if total is None else total


def with_one_letter(grammar):
    """Return the grammar with the same letter in place of all letters."""
    found = []
    for variable in grammar:
        rules = []
        for chance, symbols in variable:
            rules.append((chance, tuple(["a" if is_letter(symbol) else symbol for symbol in symbols])))
        found.append(tuple(rules))
    return tuple(found)


def best_tree(grammar, word):
    """Return the chance and the outline of the best tree of the word, or None if it has no derivation."""
    check_word(grammar, word)
    return Chart(grammar, word, BestTrees()).whole()


def rule_uses(grammar, word):
    """Return for each variable the list of the uses of its rules in the word, or None if its chance is 0."""
    check_word(grammar, word)
    total = Chart(grammar, word, Uses()).whole()
    if total is None:
        return None
    chance, uses = total
    found = []
    for variable, rules in enumerate(grammar):
        found.append([over(uses.get((variable, index), ZERO), chance) for index in range(len(rules))])
    return found


def check_grammar(grammar):
    """Raise BadValue if the argument is not a grammar."""
    if not is_grammar(grammar):
        raise BadValue("grammar")


def check_plain(grammar):
    """Raise an error if the argument is not a plain grammar."""
    if not is_plain(grammar):
        raise NotTold(("plain",))


def check_word(grammar, word):
    """Raise an error if the arguments are not a plain grammar and a word."""
    check_plain(grammar)
    if not is_word(word, LONGEST_WORD):
        raise BadValue("word")
