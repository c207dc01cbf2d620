"""What the tests of weighted systems share: a literal reading of points 73 to 76."""

import random
from fractions import Fraction

from tests.told import Root, root

ZERO = ((0, 1), (0, 1))
ONE = ((1, 1), (0, 1))


def element(x, y=0):
    """Return an element of two fractions."""
    return Root(0, x, y).element()


class Reading:
    """Points 73 to 76 for a system of nodes with own numbers and weights, read word by word."""

    def __init__(self, field, own, names):
        self.field, self.own, self.names = field, own, names
        self.uses = {node: set(weights) for node, weights in names.items()}
        for _ in names:
            self.uses = {node: others.union(*[self.uses[other] for other in others]) for node, others in self.uses.items()}
        self.counts = {node for node in names if any([own[other] != ZERO for other in {node} | self.uses[node]])}
        self.blocks = self.ordered_blocks()

    def ordered_blocks(self):
        """Return the blocks in their order."""
        left = sorted({tuple([other for other in sorted(self.names) if self.together(node, other)]) for node in self.names})
        found = []
        while left:
            done = {node for block in found for node in block}
            found.append(min([block for block in left if all([self.uses[node] <= done | set(block) for node in block])]))
            left.remove(found[-1])
        return found

    def together(self, one, other):
        """Return True if two nodes are in the same block."""
        return one == other or (other in self.uses[one] and one in self.uses[other])

    def is_looped(self, block):
        """Return True if the nodes of the block use themselves."""
        return block[0] in self.uses[block[0]]

    def rests(self, block, numbers):
        """Return the rests of the numbers at the nodes of a block."""
        found = []
        for node, number in zip(block, numbers):
            total = root(self.field, number)
            for other, more in zip(block, numbers):
                weight = root(self.field, self.names[node].get(other, ZERO))
                total = total + Root(self.field, -1) * weight * root(self.field, more)
            found.append(total.element())
        return found

    def is_evidence(self, block, evidence):
        """Return True if a pair of a word and a tuple of elements is right evidence for the block."""
        word, numbers = evidence
        if len(numbers) != len(block):
            return False
        rests = self.rests(block, numbers)
        if word == "level":
            return set(rests) == {ZERO} and set(numbers) != {ZERO}
        positive = all([self.sign(number) > 0 for number in numbers])
        return word in ("bounded", "heavy") and set(rests) == {ONE} and positive == (word == "bounded")

    def sign(self, number):
        """Return the sign of an element."""
        x, y = Fraction(*number[0]), Fraction(*number[1])
        size = float(x) + float(y) * self.field ** 0.5
        if abs(size) > 1e-9 * (1 + abs(float(x))):
            return 1 if size > 0 else -1
        x, y = (x, 1) if x * y >= 0 else (x * x - self.field * y * y, 1 if x > 0 else -1)
        return (x > 0) - (x < 0) if y > 0 else (x < 0) - (x > 0)

    def is_right(self, totals, evidence):
        """Return True if a dict of totals and a tuple of evidence are a right answer."""
        endless = set()
        wanted = list(evidence)
        for block in self.blocks:
            if block[0] not in self.counts or not self.is_looped(block):
                continue
            if any([other in endless for other in self.uses[block[0]] if other not in block]):
                continue
            if not wanted or not self.is_evidence(block, wanted[0]):
                return False
            if wanted.pop(0)[0] != "bounded":
                endless |= set(block)
        if wanted:
            return False
        endless = {node for node in self.names if node in endless or self.uses[node] & endless}
        return all([self.is_total(node, totals, endless) for node in self.names])

    def is_total(self, node, totals, endless):
        """Return True if the total of the node is right, where those nodes are infinite."""
        if node in endless or totals[node] is None:
            return node in endless and totals[node] is None
        if node not in self.counts:
            return totals[node] == ZERO
        number = root(self.field, self.own[node])
        for other, weight in self.names[node].items():
            if totals[other] is None:
                return False
            number = number + root(self.field, weight) * root(self.field, totals[other])
        return number.element() == totals[node]


def random_system(seed):
    """Return a field and a random weighted system, as two dicts."""
    dice = random.Random(seed)
    field = dice.choice((0, 0, 2, 5))
    many = dice.randrange(1, 7)
    top = dice.choice((1, 2, 4))
    own, names = {}, {}
    for node in range(many):
        own[node] = element(dice.choice((0, 0, 1, Fraction(1, 3), 2)))
        names[node] = {}
        for _ in range(dice.randrange(4)):
            y = Fraction(dice.randrange(3), 6) if field else 0
            names[node][dice.randrange(many)] = element(Fraction(dice.randrange(1, 5 * top), 6), y)
    return (field, own, names)
