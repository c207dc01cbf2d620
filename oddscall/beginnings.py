"""The chances of the beginnings of words of grammars."""

from oddscall.charts import Chances, Chart
from oddscall.errors import BadValue
from oddscall.fields import NOUGHT, UNIT, add, multiply
from oddscall.grammars import check_plain, graph_of_grammar
from oddscall.judging import check_solution
from oddscall.letters import is_letter, is_word
from oddscall.numbers import number_of
from oddscall.rationals import ZERO
from oddscall.totals import total_answer

LONGEST_BEGINNING = 6


def beginning_chance(grammar, solution, word):
    """Return the chance of the beginning, a number."""
    check_arguments(grammar, solution, word, LONGEST_BEGINNING)
    return number_of(solution[0], beginning_element(grammar, solution, word))


def next_letters(grammar, solution, word):
    """Return the list of the letters that can follow, each with the chance of the beginning with it."""
    check_arguments(grammar, solution, word, LONGEST_BEGINNING - 1)
    symbols = {symbol for variable in grammar for _, row in variable for symbol in row if is_letter(symbol)}
    found = []
    for letter in sorted(symbols):
        element = beginning_element(grammar, solution, word + letter)
        if element != NOUGHT:
            found.append((letter, number_of(solution[0], element)))
    return found


def check_arguments(grammar, solution, word, longest):
    """Raise an error for the first wrong argument."""
    check_plain(grammar)
    check_solution(graph_of_grammar(grammar), solution)
    if not is_word(word, longest):
        raise BadValue("word")


def beginning_element(grammar, solution, word):
    """Return the chance of the beginning as an element of the field of the solution."""
    field, values, _ = solution
    ends = [below[0][0] for below in values]
    if word == "":
        return ends[0]
    return Beginnings(grammar, field, ends, word).known[0, 0]


class Beginnings:
    """The chances of each variable to draw a word that begins with the rest of the given word from an index on."""

    def __init__(self, grammar, field, ends, word):
        self.grammar = grammar
        self.field = field
        self.ends = ends
        self.word = word
        self.chart = Chart(grammar, word, Chances())
        self.known = {}
        names = {variable: self.first_symbols(variable) for variable in range(len(grammar))}
        for start in reversed(range(len(word))):
            for variable in names:
                self.known[variable, start] = NOUGHT
            own = {variable: self.own_number(variable, start) for variable in names}
            # These totals are never infinite: no chance is greater than 1.
            totals, _ = total_answer(field, own, names)
            for variable in names:
                self.known[variable, start] = totals[variable]

    def first_symbols(self, variable):
        """Return a dict with the variables that begin rules of a variable, with the chances that the others end."""
        found = {}
        for chance, symbols in self.grammar[variable]:
            if not is_letter(symbols[0]):
                weight = multiply(self.field, self.ending(symbols[1:]), (chance, ZERO))
                if weight != NOUGHT:
                    found[symbols[0]] = add(self.field, found.get(symbols[0], NOUGHT), weight)
        return found

    def ending(self, symbols):
        """Return the chance that all symbols come to an end."""
        product = UNIT
        for symbol in symbols:
            if not is_letter(symbol):
                product = multiply(self.field, product, self.ends[symbol])
        return product

    def own_number(self, variable, start):
        """Return the total over the rules of a variable, without what first variables do from the same index on."""
        total = NOUGHT
        for chance, symbols in self.grammar[variable]:
            total = add(self.field, total, multiply(self.field, self.begun(symbols, start), (chance, ZERO)))
        return total

    def begun(self, symbols, start):
        """Return the chance that some symbols draw a word that begins with the rest of the word.

        The rest ends either within what the first symbol draws, or behind it.
        """
        first = symbols[0]
        total = NOUGHT
        if not is_letter(first):
            total = multiply(self.field, self.known[first, start], self.ending(symbols[1:]))
        elif self.word[start:] == first:
            total = self.ending(symbols[1:])
        if len(symbols) > 1:
            for middle in range(start + 1, len(self.word)):
                chance = self.chart.over(first, start, middle)
                if chance is not None:
                    more = multiply(self.field, self.begun(symbols[1:], middle), (chance, ZERO))
                    total = add(self.field, total, more)
        return total
