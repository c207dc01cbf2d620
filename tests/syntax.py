"""What the tests of texts share: the grammar of the document, read as it stands, and random programs."""

import random
import re
from fractions import Fraction

from tests.helpers import rational

GRAMMAR = """
PROGRAM     = PROCEDURE { PROCEDURE } END
PROCEDURE   = "proc" NAME "(" [ VARIABLE { "," VARIABLE } ] ")" [ ":" NUMBER ] "{" { "var" VARIABLE ";" } { STATEMENT } "}"
VARIABLE    = NAME ":" NUMBER
STATEMENT   = NAME "=" VALUE ";" | "call" NAME ARGUMENTS ";" | "if" CONDITION BLOCK [ "else" BLOCK ]
            | "while" CONDITION BLOCK | "draw" "{" BRANCH { BRANCH } "}" | "choose" BLOCK { "or" BLOCK }
            | "observe" CONDITION ";" | "reward" RATIONAL ";" | "stop" ";" | "return" [ EXPRESSION ] ";"
VALUE       = EXPRESSION | "call" NAME ARGUMENTS
ARGUMENTS   = "(" [ EXPRESSION { "," EXPRESSION } ] ")"
BLOCK       = "{" { STATEMENT } "}"
BRANCH      = RATIONAL BLOCK
RATIONAL    = NUMBER [ "/" NUMBER ]
CONDITION   = CONJUNCTION { "or" CONJUNCTION }
CONJUNCTION = LITERAL { "and" LITERAL }
LITERAL     = [ "not" ] ATOM
ATOM        = "[" CONDITION "]" | EXPRESSION COMPARISON EXPRESSION
COMPARISON  = "=" | "!=" | "<" | "<=" | ">" | ">="
EXPRESSION  = PRODUCT { ( "+" | "-" ) PRODUCT }
PRODUCT     = FACTOR { "*" FACTOR }
FACTOR      = NUMBER | NAME | "(" EXPRESSION ")"
"""

LIMITED = ("CONDITION", "CONJUNCTION", "EXPRESSION", "PRODUCT")
RESERVED = "proc var call if else while draw choose or observe reward stop return and not".split()
SIGNS = "{ } ( ) [ ] : ; , = != < <= > >= + - * /".split()
ORDER = ["a name", "a number"] + RESERVED + [f'"{sign}"' for sign in SIGNS] + ["the end"]


def parsed_grammar():
    """Return the dict of the rules: trees of ("any", ..), ("all", ..), ("many", tree, times), ("maybe", tree), strings."""
    rules = {}
    for part in re.split(r"\n(?=[A-Z]+ +=)", GRAMMAR.strip()):
        name, text = part.split("=", 1)
        name = name.strip()
        words = re.findall(r'"[^"]*"|[A-Z]+|[{}()|]|\[|\]', text)
        rules[name] = alternatives(words, 8 if name in LIMITED else None)
        assert words == [], name
    return rules


def alternatives(words, times):
    """Return the tree of the alternatives at the beginning of a list of words, which are taken away."""
    found = [[]]
    while words and words[0] not in ("}", "]", ")"):
        word = words.pop(0)
        if word == "|":
            found.append([])
        elif word in ("{", "[", "("):
            inner = alternatives(words, times)
            words.pop(0)
            found[-1].append({"{": ("many", inner, times), "[": ("maybe", inner), "(": inner}[word])
        else:
            found[-1].append(word)
    return ("any", *[("all", *row) for row in found])


RULES = parsed_grammar()
TERMINALS = {"NAME": "a name", "NUMBER": "a number", "END": "the end"}


def terminal(word):
    """Return what a word of the grammar that is no rule tells of a token."""
    if word in TERMINALS:
        return TERMINALS[word]
    return word[1:-1] if word[1:-1] in RESERVED else word


def open_stacks(stack):
    """Return the list of the stacks with a terminal on top, to which a stack leads without a token.

    A stack is a pair of an item of the grammar and the stack below it, or None. None in the list is the empty stack.
    """
    if stack is None:
        return [None]
    item, below = stack
    if isinstance(item, str):
        return open_stacks((RULES[item], below)) if item in RULES else [stack]
    if item[0] == "any":
        return [found for row in item[1:] for found in open_stacks((row, below))]
    if item[0] == "all":
        for inner in reversed(item[1:]):
            below = (inner, below)
        return open_stacks(below)
    if item[0] == "maybe":
        return open_stacks((item[1], below)) + open_stacks(below)
    _, inner, times = item
    found = open_stacks(below)
    if times != 0:
        found = open_stacks((inner, (("many", inner, None if times is None else times - 1), below))) + found
    return found


class Follower:
    """All stacks of the grammar to which the tokens so far can lead."""

    def __init__(self):
        self.stacks = open_stacks(("PROGRAM", None))

    def words(self):
        """Return the list of the words for what can come, in the order of the document."""
        found = {terminal(stack[0]) for stack in self.stacks if stack is not None}
        return [word for word in ORDER if word in found]

    def take(self, word):
        """Go on with a token that can come."""
        after = []
        for stack in self.stacks:
            if stack is not None and terminal(stack[0]) == word:
                after.extend(open_stacks(stack[1]))
        self.stacks = after


def token_text(dice, word):
    """Return the characters of a random token that a word tells."""
    if word == "a name":
        return dice.choice(("x", "y", "n1", "procs", "f", "abcdefgh"))
    if word == "a number":
        return dice.choice(("0", "1", "2", "07", "123456"))
    return word.strip('"')


def listed(words):
    """Return the words of the problem of a token where these can come."""
    return "expected " + (words[0] if len(words) == 1 else ", ".join(words[:-1]) + " or " + words[-1])


class Maker:
    """Random programs as tuples of the document, which have no problem."""

    def __init__(self, seed, choices=True, most=3, busy=False):
        self.dice = random.Random(seed)
        self.choices = choices
        # A busy program calls often, with arguments of many values.
        self.busy = busy
        self.many = self.dice.randrange(1, most + 1)
        self.parameters = [[]] + [[("n", 4)] if busy else self.pairs("pqr") for _ in range(self.many - 1)]
        self.results = [self.dice.choice((1, 1, 2, 3)) for _ in range(self.many)]

    def pairs(self, letters):
        """Return a random list of names with sizes."""
        return [(letter, self.dice.choice((1, 2, 2, 3))) for letter in letters[:self.dice.randrange(3)]]

    def program(self):
        """Return the procedures."""
        found = []
        for number in range(self.many):
            variables = self.pairs("xy") or [("x", 2)]
            self.names = [name for name, _ in self.parameters[number] + variables]
            found.append((f"f{number}", tuple(self.parameters[number]), self.results[number], tuple(variables), self.block(2, number)))
        return tuple(found)

    def block(self, depth, number=0):
        """Return a random block."""
        return tuple([self.statement(depth) for _ in range(self.dice.choice((0, 1, 1, 2, 3)) if depth < 2 else self.dice.randrange(2, 5))])

    def statement(self, depth):
        """Return a random statement."""
        words = ["set", "set", "observe", "reward", "stop", "return", "call", "call"]
        if depth > 0:
            words += ["if", "if", "while", "while", "draw", "draw", "draw"] + (["choose", "choose"] if self.choices else [])
        word = self.dice.choice(words + ["call"] * 9 * self.busy)
        if word == "set":
            return ("set", self.dice.choice(self.names), self.expression(2))
        if word == "observe":
            return ("observe", self.condition(2))
        if word == "reward":
            return ("reward", self.dice.choice(((0, 1), (1, 1), (1000, 1), (7, 12))))
        if word == "return":
            return ("return", self.expression(1))
        if word == "call":
            called = self.dice.randrange(self.many)
            terms = tuple([self.expression(1) for _ in self.parameters[called]])
            return ("call", self.dice.choice((None, self.dice.choice(self.names))), f"f{called}", terms)
        if word == "if":
            return ("if", self.condition(1), self.block(depth - 1), self.dice.choice(((), self.block(depth - 1))))
        if word == "while":
            return ("while", self.condition(1), self.block(depth - 1))
        if word == "choose":
            return ("choose", tuple([self.block(depth - 1) for _ in range(self.dice.randrange(1, 5))]))
        return ("draw", self.branches(depth)) if word == "draw" else ("stop",)

    def branches(self, depth):
        """Return the branches of a random draw."""
        parts = [self.dice.randrange(1, 6) for _ in range(self.dice.randrange(1, 5))]
        return tuple([(rational(Fraction(part, sum(parts))), self.block(depth - 1)) for part in parts])

    def expression(self, depth):
        """Return a random expression."""
        if depth == 0 or self.dice.random() < 0.3:
            return self.dice.choice((("int", self.dice.choice((0, 1, 1, 2, 3, 999999))), ("name", self.dice.choice(self.names))))
        return (self.dice.choice(("plus", "minus", "times")), self.expression(depth - 1), self.expression(depth - 1))

    def condition(self, depth):
        """Return a random condition."""
        if depth == 0 or self.dice.random() < 0.4:
            return (self.dice.choice(("eq", "eq", "lt", "le")), self.expression(1), self.expression(1))
        word = self.dice.choice(("and", "or", "not"))
        if word == "not":
            return ("not", self.condition(depth - 1))
        return (word, self.condition(depth - 1), self.condition(depth - 1))


class Spelling:
    """Tokens of programs, with parentheses and brackets that are not needed and other ways to say the same."""

    def __init__(self, seed):
        self.dice = random.Random(seed)

    def text(self, program):
        """Return a text of the program, with random blanks and comments between its tokens."""
        found = ""
        for token in self.program(program):
            blank = self.dice.choice((" ", " ", "\n", "\t ", " # words, A!\n", "\n#\n"))
            needed = found[-1:].isalnum() and token[0].isalnum() or found[-1:] in ("<", ">", "!", "=") and token[0] == "="
            found += (blank if needed or self.dice.random() < 0.6 else "") + token
        return found + self.dice.choice(("", "\n", "# end"))

    def program(self, program):
        """Return the list of the tokens of a program."""
        found = []
        for name, parameters, results, variables, body in program:
            rows = [[one, ":", str(size)] for one, size in parameters]
            found += ["proc", name, "("] + self.joined(rows) + [")"]
            if results != 1 or self.dice.random() < 0.3:
                found += [":", str(results)]
            found += ["{"]
            for one, size in variables:
                found += ["var", one, ":", "0" * self.dice.randrange(2) + str(size), ";"]
            found += self.statements(body) + ["}"]
        return found

    def joined(self, rows):
        """Return the tokens of all rows, with commas between them."""
        found = []
        for row in rows:
            found += ([","] if found else []) + row
        return found

    def block(self, block):
        """Return the tokens of a block."""
        return ["{"] + self.statements(block) + ["}"]

    def statements(self, block):
        """Return the tokens of the statements of a block."""
        return [token for statement in block for token in self.statement(statement)]

    def statement(self, statement):
        """Return the tokens of a statement."""
        word = statement[0]
        if word == "set":
            return [statement[1], "="] + self.expression(statement[2]) + [";"]
        if word == "call":
            head = [] if statement[1] is None else [statement[1], "="]
            return head + ["call", statement[2], "("] + self.joined([self.expression(term) for term in statement[3]]) + [")", ";"]
        if word == "if":
            tail = ["else"] + self.block(statement[3]) if statement[3] or self.dice.random() < 0.3 else []
            return ["if"] + self.condition(statement[1]) + self.block(statement[2]) + tail
        if word == "while":
            return ["while"] + self.condition(statement[1]) + self.block(statement[2])
        if word == "draw":
            return ["draw", "{"] + [token for one, block in statement[1] for token in self.rational(one) + self.block(block)] + ["}"]
        if word == "choose":
            found = ["choose"]
            for at, block in enumerate(statement[1]):
                found += (["or"] if at else []) + self.block(block)
            return found
        if word == "observe":
            return ["observe"] + self.condition(statement[1]) + [";"]
        if word == "reward":
            return ["reward"] + self.rational(statement[1]) + [";"]
        if word == "return":
            bare = statement[1] == ("int", 0) and self.dice.random() < 0.5
            return ["return"] + ([] if bare else self.expression(statement[1])) + [";"]
        return ["stop", ";"]

    def rational(self, one):
        """Return the tokens of a rational, which need not be in lowest terms."""
        more = self.dice.choice((1, 1, 2, 10))
        return [str(one[0] * more), "/", str(one[1] * more)] if one[1] * more > 1 or self.dice.random() < 0.3 else [str(one[0])]

    def expression(self, tree, closed=False):
        """Return the tokens of an expression."""
        if tree[0] in ("int", "name"):
            found = [str(tree[1])]
        else:
            sums, times = ("plus", "minus"), ("times",)
            left = tree[1][0] in sums and tree[0] == "times"
            right = tree[2][0] in sums + (times if tree[0] == "times" else ())
            found = self.expression(tree[1], left) + [{"plus": "+", "minus": "-", "times": "*"}[tree[0]]] + self.expression(tree[2], right)
        return ["("] + found + [")"] if closed or self.dice.random() < 0.2 else found

    def condition(self, tree, closed=False):
        """Return the tokens of a condition."""
        word = tree[0]
        if word in ("and", "or"):
            left = tree[1][0] == "or" and word == "and"
            right = tree[2][0] == "or" or tree[2][0] == "and" and word == "and"
            found = self.condition(tree[1], left) + [word] + self.condition(tree[2], right)
        elif word == "not" and tree[1][0] == "eq" and self.dice.random() < 0.6:
            found = self.expression(tree[1][1]) + ["!="] + self.expression(tree[1][2])
        elif word == "not":
            found = ["not"] + self.condition(tree[1], tree[1][0] in ("and", "or", "not"))
        elif word in ("lt", "le") and self.dice.random() < 0.5:
            found = self.expression(tree[2]) + [{"lt": ">", "le": ">="}[word]] + self.expression(tree[1])
        else:
            found = self.expression(tree[1]) + [{"eq": "=", "lt": "<", "le": "<="}[word]] + self.expression(tree[2])
        return ["["] + found + ["]"] if closed or self.dice.random() < 0.2 else found
