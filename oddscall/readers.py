"""A reader of tokens, which knows what could come at its place and keeps what it notes on the way."""

from oddscall.errors import TextError
from oddscall.scanning import END, NAME, NUMBER, RESERVED, RESERVED_WORDS, SIGNS

A_NAME = "a name"
A_NUMBER = "a number"
THE_END = "the end"


class Reader:
    """A place among the tokens of a text, and what was noted before it."""

    def __init__(self, tokens):
        self.tokens = tokens
        self.at = 0
        # The words for all that was asked for at this place: just what can come here.
        self.wanted = {}
        # Problems are tuples of the index at which they are noticed, the index of their token, and their words.
        self.problems = []
        self.starts = []
        # Calls are tuples of the index of the name of the procedure, this name, and the number of arguments.
        self.calls = []
        # The names of the parameters and variables of the procedure that is read.
        self.names = []

    def sees(self, word):
        """Return True if the token at this place is what the word tells."""
        self.wanted[word] = True
        return word_of(self.tokens[self.at]) == word

    def takes(self, word):
        """Go on behind the token if it is what the word tells, and return True if it is."""
        if not self.sees(word):
            return False
        self.at += 1
        self.wanted = {}
        return True

    def needs(self, word):
        """Go on behind the token, which has to be what the word tells, and return its characters."""
        characters = self.tokens[self.at][1]
        if not self.takes(word):
            self.fail()
        return characters

    def needs_end(self):
        """Raise TextError if the token at this place is not the end."""
        if not self.sees(THE_END):
            self.fail()

    def fail(self):
        """Raise TextError for the token at this place, which cannot come here."""
        _, _, line, column = self.tokens[self.at]
        words = self.next_words()
        last = words.pop()
        if len(words) > 0:
            last = ", ".join(words) + " or " + last
        raise TextError(line, column, "expected " + last)

    def next_words(self):
        """Return the list of the words for what can come at this place, in their order."""
        return [word for word in all_words() if word in self.wanted]

    def is_at_end(self):
        """Return True if the token at this place is the end."""
        return self.tokens[self.at][0] == END

    def note(self, at, words):
        """Note a problem of the token with this index."""
        self.problems.append((at, at, words))

    def note_late(self, at, words):
        """Note a problem of the token with this index, which is noticed at this place only."""
        self.problems.append((self.at, at, words))

    def begin_statement(self):
        """Keep the place of the token as that of a statement."""
        _, _, line, column = self.tokens[self.at]
        self.starts.append((line, column))

    def check_problems(self):
        """Raise TextError for the problem that is noticed first, if there is one."""
        if len(self.problems) > 0:
            _, at, words = min(self.problems, key=lambda problem: problem[0])
            _, _, line, column = self.tokens[at]
            raise TextError(line, column, words)


def word_of(token):
    """Return the word that tells what a token is."""
    kind, characters, _, _ = token
    if kind == RESERVED:
        return characters
    if kind == NAME:
        return A_NAME
    if kind == NUMBER:
        return A_NUMBER
    return THE_END if kind == END else quoted(characters)


def quoted(sign):
    """Return the word for a sign."""
    return '"' + sign + '"'


def all_words():
    """Return the list of all words for tokens in their order."""
    return [A_NAME, A_NUMBER, *RESERVED_WORDS, *[quoted(sign) for sign in SIGNS], THE_END]
