"""The tokens of texts."""

from oddscall.errors import TextError
from oddscall.letters import DIGITS, LETTERS

NAME = "name"
RESERVED = "reserved"
NUMBER = "number"
SIGN = "sign"
END = "end"

RESERVED_WORDS = (
    "proc", "var", "call", "if", "else", "while", "draw", "choose", "or", "observe", "reward", "stop", "return", "and",
    "not")
SIGNS = ("{", "}", "(", ")", "[", "]", ":", ";", ",", "=", "!=", "<", "<=", ">", ">=", "+", "-", "*", "/")
OPENING = ("{", "(", "[")
CLOSING = ("}", ")", "]")
BLANKS = (" ", "\t")
LONGEST_WORD = 8
LONGEST_NUMBER = 6
DEEPEST = 12


def scan(text):
    """Return the list of the tokens of a text, the last of which is its end."""
    scanner = Scanner()
    rows = text.split("\n")
    # No token and no comment goes on behind a newline.
    for number, row in enumerate(rows):
        scanner.read_row(number + 1, row)
    scanner.found.append((END, "", len(rows), len(rows[-1]) + 1))
    return scanner.found


class Scanner:
    """The tokens that were found so far, and how many opening signs before the next one are not closed."""

    def __init__(self):
        self.found = []
        self.depth = 0

    def read_row(self, line, row):
        """Read the tokens of the line with this number."""
        at = 0
        while at < len(row) and row[at] != "#":
            if row[at] in BLANKS:
                at += 1
            else:
                behind = end_of_token(row, at)
                self.add_token(line, at + 1, row[at:behind])
                at = behind

    def add_token(self, line, column, characters):
        """Add the token with these characters, if it has no problem."""
        words = self.problem_of(characters)
        if words is not None:
            raise TextError(line, column, words)
        if characters in OPENING:
            self.depth += 1
        elif characters in CLOSING and self.depth > 0:
            self.depth -= 1
        self.found.append((kind_of(characters), characters, line, column))

    def problem_of(self, characters):
        """Return the words of the problem of a token, or None. A token without characters is none at all."""
        if characters == "":
            return "no token begins here"
        if characters[0] in LETTERS and len(characters) > LONGEST_WORD:
            return "a word has at most 8 characters"
        if characters[0] in DIGITS and len(characters) > LONGEST_NUMBER:
            return "a number has at most 6 digits"
        if characters in OPENING and self.depth == DEEPEST:
            return "nested too deep"
        return None


def end_of_token(row, at):
    """Return the index behind the longest token that begins at the index, or the index itself if none does."""
    if row[at] in LETTERS:
        return end_of_run(row, at, LETTERS + DIGITS)
    if row[at] in DIGITS:
        return end_of_run(row, at, DIGITS)
    if at + 1 < len(row) and row[at:at + 2] in SIGNS:
        return at + 2
    return at + 1 if row[at] in SIGNS else at


def end_of_run(row, at, characters):
    """Return the index behind all of these characters that stand in a row from the index on."""
    while at < len(row) and row[at] in characters:
        at += 1
    return at


def kind_of(characters):
    """Return the kind of the token with these characters."""
    if characters[0] in LETTERS:
        return RESERVED if characters in RESERVED_WORDS else NAME
    return NUMBER if characters[0] in DIGITS else SIGN
