"""Programs, as they are read from texts."""

from oddscall.errors import BadValue, TextError
from oddscall.readers import A_NAME, A_NUMBER, Reader
from oddscall.scanning import scan
from oddscall.statements import read_statements
from oddscall.wholes import is_index

LONGEST_TEXT = 8000
MOST_PROCEDURES = 6
MOST_VARIABLES = 5
GREATEST_SIZE = 8
MOST_RESULTS = 3


class Program:
    """A program: its procedures, and where the statements stand in its text."""

    def __init__(self, procedures, starts):
        self.procedures = procedures
        self.starts = tuple(starts)

    def place_of(self, statement):
        """Return the line and the column of the first token of the statement with this number."""
        if not is_index(statement, len(self.starts)):
            raise BadValue("statement")
        return self.starts[statement]


def next_tokens(text):
    """Return the list of the words for what can come behind the tokens of the text."""
    check_text(text)
    reader = Reader(scan(text))
    try:
        read_procedures(reader)
    except TextError:
        # At the end, the problem is just that the text is a beginning only.
        if not reader.is_at_end():
            raise
    return reader.next_words()


def read_program(text):
    """Return the program with this text."""
    check_text(text)
    reader = Reader(scan(text))
    procedures = read_procedures(reader)
    note_calls(reader, procedures)
    reader.check_problems()
    return Program(procedures, reader.starts)


def check_text(text):
    """Raise BadValue if the argument is not a string of a length that texts can have."""
    if not isinstance(text, str) or len(text) > LONGEST_TEXT:
        raise BadValue("text")


def read_procedures(reader):
    """Return the tuple of all procedures of a text."""
    found = [read_procedure(reader, [])]
    while reader.sees("proc"):
        found.append(read_procedure(reader, [name for name, _, _, _, _ in found]))
    reader.needs_end()
    return tuple(found)


def read_procedure(reader, before):
    """Return the procedure at the place of the reader, which goes on behind it, with these names before it."""
    reader.needs("proc")
    at = reader.at
    name = reader.needs(A_NAME)
    if len(before) >= MOST_PROCEDURES:
        reader.note(at, "a program has at most 6 procedures")
    if name in before:
        reader.note(at, "this name stands already")
    reader.names = []
    reader.needs('"("')
    parameters = []
    if reader.sees(A_NAME):
        parameters.append(read_variable(reader, len(before) == 0))
        while reader.takes('","'):
            parameters.append(read_variable(reader, len(before) == 0))
    reader.needs('")"')
    results = read_results(reader)
    reader.needs('"{"')
    variables = []
    while reader.takes("var"):
        variables.append(read_variable(reader, False))
        reader.needs('";"')
    body = read_statements(reader)
    reader.needs('"}"')
    return (name, tuple(parameters), results, tuple(variables), body)


def read_variable(reader, is_barred):
    """Return the pair of a name and a size at the place of the reader."""
    at = reader.at
    name = reader.needs(A_NAME)
    if is_barred:
        reader.note(at, "the first procedure has no parameters")
    if len(reader.names) >= MOST_VARIABLES:
        reader.note(at, "a procedure has at most 5 variables")
    if name in reader.names:
        reader.note(at, "this name stands already")
    reader.names.append(name)
    reader.needs('":"')
    at = reader.at
    size = int(reader.needs(A_NUMBER))
    if not 1 <= size <= GREATEST_SIZE:
        reader.note(at, "a size is from 1 to 8")
    return (name, size)


def read_results(reader):
    """Return the number of results at the place of the reader, or 1 if there is none."""
    if not reader.takes('":"'):
        return 1
    at = reader.at
    results = int(reader.needs(A_NUMBER))
    if not 1 <= results <= MOST_RESULTS:
        reader.note(at, "results are from 1 to 3")
    return results


def note_calls(reader, procedures):
    """Note the problems of all calls, of procedures that may stand behind them."""
    numbers = {}
    for name, parameters, _, _, _ in procedures:
        numbers.setdefault(name, len(parameters))
    for at, name, many in reader.calls:
        if name not in numbers:
            reader.note(at, "this procedure is unknown")
        elif numbers[name] != many:
            reader.note(at, "wrong number of arguments")
