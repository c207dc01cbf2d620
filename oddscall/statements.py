"""Statements, as they are read from tokens."""

from oddscall.phrases import read_condition, read_expression, read_known_name, read_rational, sees_expression
from oddscall.problems import MOST_BRANCHES, is_amount, is_chance
from oddscall.rationals import ONE, ZERO, plus
from oddscall.readers import A_NAME, A_NUMBER


def read_block(reader):
    """Return the block at the place of the reader, which goes on behind it."""
    reader.needs('"{"')
    found = read_statements(reader)
    reader.needs('"}"')
    return found


def read_statements(reader):
    """Return the tuple of all statements at the place of the reader."""
    found = []
    seen = [word for word in STATEMENTS if reader.sees(word)]
    while len(seen) > 0:
        reader.begin_statement()
        read_statement = STATEMENTS[seen[0]]
        found.append(read_statement(reader))
        seen = [word for word in STATEMENTS if reader.sees(word)]
    return tuple(found)


def read_set(reader):
    """Return the statement that puts a value or a result into a variable."""
    name = read_known_name(reader)
    reader.needs('"="')
    if reader.sees("call"):
        found = read_call(reader, name)
    else:
        found = ("set", name, read_expression(reader))
    reader.needs('";"')
    return found


def read_bare_call(reader):
    """Return the call whose result is not used."""
    found = read_call(reader, None)
    reader.needs('";"')
    return found


def read_call(reader, name):
    """Return the call whose result is put into the variable with this name, without what stands behind it."""
    reader.needs("call")
    at = reader.at
    called = reader.needs(A_NAME)
    reader.needs('"("')
    arguments = []
    if sees_expression(reader):
        arguments.append(read_expression(reader))
        while reader.takes('","'):
            arguments.append(read_expression(reader))
    reader.needs('")"')
    reader.calls.append((at, called, len(arguments)))
    return ("call", name, called, tuple(arguments))


def read_if(reader):
    """Return the statement with a condition and two blocks."""
    reader.needs("if")
    condition = read_condition(reader)
    first = read_block(reader)
    return ("if", condition, first, read_block(reader) if reader.takes("else") else ())


def read_while(reader):
    """Return the loop."""
    reader.needs("while")
    condition = read_condition(reader)
    return ("while", condition, read_block(reader))


def read_draw(reader):
    """Return the draw, and note if its chances do not add up to 1."""
    at = reader.at
    reader.needs("draw")
    reader.needs('"{"')
    branches = [read_branch(reader, 0)]
    while reader.sees(A_NUMBER):
        branches.append(read_branch(reader, len(branches)))
    total = ZERO
    for chance, _ in branches:
        total = plus(total, chance)
    if total != ONE:
        reader.note_late(at, "the total of the chances is not 1")
    reader.needs('"}"')
    return ("draw", tuple(branches))


def read_branch(reader, before):
    """Return the branch of a draw that has so many branches before it."""
    at = reader.at
    chance = read_rational(reader)
    if before >= MOST_BRANCHES:
        reader.note(at, "a draw has at most 4 branches")
    if not is_chance(chance):
        reader.note(at, "this chance is not valid")
    return (chance, read_block(reader))


def read_choose(reader):
    """Return the choice."""
    reader.needs("choose")
    blocks = [read_block(reader)]
    at = reader.at
    while reader.takes("or"):
        if len(blocks) >= MOST_BRANCHES:
            reader.note(at, "a choice has at most 4 blocks")
        blocks.append(read_block(reader))
        at = reader.at
    return ("choose", tuple(blocks))


def read_observe(reader):
    """Return the observation."""
    reader.needs("observe")
    condition = read_condition(reader)
    reader.needs('";"')
    return ("observe", condition)


def read_reward(reader):
    """Return the reward."""
    reader.needs("reward")
    at = reader.at
    amount = read_rational(reader)
    if not is_amount(amount):
        reader.note(at, "this amount is not valid")
    reader.needs('";"')
    return ("reward", amount)


def read_stop(reader):
    """Return the statement that stops the run."""
    reader.needs("stop")
    reader.needs('";"')
    return ("stop",)


def read_return(reader):
    """Return the statement that finishes the procedure."""
    reader.needs("return")
    result = read_expression(reader) if sees_expression(reader) else ("int", 0)
    reader.needs('";"')
    return ("return", result)


STATEMENTS = {
    "a name": read_set,
    "call": read_bare_call,
    "if": read_if,
    "while": read_while,
    "draw": read_draw,
    "choose": read_choose,
    "observe": read_observe,
    "reward": read_reward,
    "stop": read_stop,
    "return": read_return,
}
