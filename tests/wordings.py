"""What the tests of grammars share: sample grammars, and derivations that are made one by one."""

import random
from fractions import Fraction

from tests.helpers import rational


def one_letter():
    """Return the grammar of the document."""
    return ((((1, 3), (0, 0)), ((2, 3), ("a",))),)


def two_letters():
    """Return a plain grammar with rules of all lengths, in which words have several derivations."""
    return (
        (((1, 4), ("a", 1)), ((1, 4), (1, 0, "b")), ((1, 4), (0, 1)), ((1, 4), ("b",))),
        (((1, 2), ("a",)), ((1, 3), ("b", "a")), ((1, 6), (1, 1, "a", 0))),
    )


def rooted_grammar():
    """Return a plain grammar whose variable 0 ends with the chance 1 - sqrt(2) / 2, and whose variable 1 never ends."""
    return ((((1, 2), (0, 0)), ((1, 4), ("a",)), ((1, 4), (1, "b"))), (((1, 1), (1, 1)),))


def finite_grammar():
    """Return a plain grammar with finitely many words, some of which have several derivations."""
    return (
        (((1, 6), (1, 2)), ((1, 3), (2, 1)), ((1, 4), ("a", 2, "a")), ((1, 4), (1, 1, 1))),
        (((2, 5), ("a",)), ((3, 5), ("a", "b"))),
        (((1, 7), ("b", 1)), ((6, 7), (1, "a"))),
    )


def greatest_grammar():
    """Return a plain grammar of 6 variables, with 12 rules and 28 symbols."""
    found = []
    for number in range(6):
        long = ((number + 1) % 6, "ab"[number % 2], number, (number + 2) % 6)
        found.append((((19, 60), long if number < 4 else long[:3]), ((41, 60), ("b",))))
    return tuple(found)


def random_grammar(seed, plain=True):
    """Return a random grammar."""
    dice = random.Random(seed)
    many = dice.randrange(1, 4)
    found = []
    for _ in range(many):
        rules = []
        parts = [dice.randrange(1, 9) for _ in range(dice.randrange(1, 4))]
        for part in parts:
            size = dice.choice((0, 1, 1, 2, 2, 3, 4)) if not plain else dice.choice((1, 1, 2, 2, 3, 4))
            symbols = tuple([dice.choice(("a", "b") + tuple(range(many))) for _ in range(size)])
            if plain and size == 1:
                symbols = (dice.choice(("a", "b")),)
            rules.append((rational(Fraction(part, sum(parts))), symbols))
        found.append(tuple(rules))
    return tuple(found)


def words_of(letters, most):
    """Return the list of all words of these letters that have at most so many letters."""
    found = [""]
    for word in found:
        if len(word) < most:
            found.extend([word + letter for letter in letters])
    return found


def derivations(grammar, word):
    """Return the list of the pairs of a chance and an outline of all derivations of a word.

    They are made from left to right: the first variable of what is left is replaced by each of its rules.
    """
    found = []
    waiting = [(0, (0,), Fraction(1), ())]
    while waiting:
        at, symbols, chance, outline = waiting.pop()
        while symbols and isinstance(symbols[0], str) and word[at:at + 1] == symbols[0]:
            at, symbols = at + 1, symbols[1:]
        if not symbols:
            if at == len(word):
                found.append((chance, list(outline)))
        elif isinstance(symbols[0], int) and len(symbols) <= len(word) - at:
            for index, (more, inner) in enumerate(grammar[symbols[0]]):
                waiting.append((at, inner + symbols[1:], chance * Fraction(*more), outline + ((symbols[0], index),)))
    return found
