"""Charts: what the trees of a plain grammar come to over all stretches of a word.

What they come to is told by an object with four methods: `letter()` for a letter, `joined(first, second)` for two
neighbours, `rule(name, chance, inner)` for a tree with this rule, a pair of a variable and an index, over what is
below it, and `either(first, second)` for trees of which there are both.
"""

from oddscall.rationals import ONE, ZERO, less, plus, times


class Chart:
    """What each variable comes to over each stretch of the word from which it has trees."""

    def __init__(self, grammar, word, kind):
        self.grammar = grammar
        self.word = word
        self.kind = kind
        self.found = {}
        self.rests = {}
        # In a plain grammar, a tree with more than one symbol below its rule rests on trees of lesser stretches alone.
        for size in range(1, len(word) + 1):
            for start in range(len(word) - size + 1):
                for variable in range(len(grammar)):
                    total = self.tree_total(variable, start, start + size)
                    if total is not None:
                        self.found[variable, start, start + size] = total

    def whole(self):
        """Return what the variable 0 comes to over the whole word, or None if the word has no derivation."""
        return self.over(0, 0, len(self.word))

    def over(self, symbol, start, stop):
        """Return what a symbol comes to over a stretch, or None if it has no tree."""
        if not isinstance(symbol, str):
            return self.found.get((symbol, start, stop))
        return self.kind.letter() if self.word[start:stop] == symbol else None

    def tree_total(self, variable, start, stop):
        """Return what the rules of a variable come to over a stretch, or None if there is no tree."""
        total = None
        for index, (chance, _) in enumerate(self.grammar[variable]):
            inner = self.rest(variable, index, 0, start, stop)
            if inner is not None:
                total = self.either(total, self.kind.rule((variable, index), chance, inner))
        return total

    def rest(self, variable, index, at, start, stop):
        """Return what the symbols of a rule, from the one at an index on, come to over a stretch, or None."""
        symbols = self.grammar[variable][index][1]
        if at == len(symbols) - 1:
            return self.over(symbols[at], start, stop)
        key = (variable, index, at, start, stop)
        if key not in self.rests:
            total = None
            for middle in range(start + 1, stop):
                first = self.over(symbols[at], start, middle)
                second = None if first is None else self.rest(variable, index, at + 1, middle, stop)
                if second is not None:
                    total = self.either(total, self.kind.joined(first, second))
            self.rests[key] = total
        return self.rests[key]

    def either(self, total, more):
        """Return what two come to of which the first one may be None."""
        return more if total is None else self.kind.either(total, more)


class Chances:
    """Trees come to the total of their chances."""

    def letter(self):
        """Return the chance of nothing but a letter."""
        return ONE

    def joined(self, first, second):
        """Return the chance of both."""
        return times(first, second)

    def rule(self, name, chance, inner):
        """Return the chance of a rule and what is below it."""
        return times(chance, inner)

    def either(self, first, second):
        """Return the total of two chances."""
        return plus(first, second)


class BestTrees:
    """Trees come to the best one of them, told by its chance and its outline."""

    def letter(self):
        """Return what a letter is: no rule."""
        return (ONE, [])

    def joined(self, first, second):
        """Return the chance of both, and one outline behind the other."""
        return (times(first[0], second[0]), first[1] + second[1])

    def rule(self, name, chance, inner):
        """Return the chance and the outline of a tree with this rule."""
        return (times(chance, inner[0]), [name] + inner[1])

    def either(self, first, second):
        """Return the one with the greater chance, or else with the outline that comes first."""
        if first[0] == second[0]:
            return first if first[1] <= second[1] else second
        return second if less(first[0], second[0]) else first


class Uses:
    """Trees come to the total of their chances, and for each rule to that of the chance times its number in a tree."""

    def letter(self):
        """Return what a letter is: no rule."""
        return (ONE, {})

    def joined(self, first, second):
        """Return the products of the chances, and the uses in both."""
        uses = {name: times(use, second[0]) for name, use in first[1].items()}
        for name, use in second[1].items():
            uses[name] = plus(uses.get(name, ZERO), times(use, first[0]))
        return (times(first[0], second[0]), uses)

    def rule(self, name, chance, inner):
        """Return the chance and the uses of trees with this rule."""
        total = times(chance, inner[0])
        uses = {other: times(use, chance) for other, use in inner[1].items()}
        uses[name] = plus(uses.get(name, ZERO), total)
        return (total, uses)

    def either(self, first, second):
        """Return the totals of the chances and of the uses."""
        uses = {name: use for name, use in first[1].items()}
        for name, use in second[1].items():
            uses[name] = plus(uses.get(name, ZERO), use)
        return (plus(first[0], second[0]), uses)
