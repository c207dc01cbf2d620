"""The texts of programs."""

SIGNS = {"plus": " + ", "minus": " - ", "times": " * ", "eq": " = ", "lt": " < ", "le": " <= "}
SUMS = ("plus", "minus")
PRODUCTS = ("times",)
COMPARISONS = ("eq", "lt", "le")
INDENT = "  "


def program_text(program):
    """Return the text of the program."""
    lines = []
    for procedure in program.procedures:
        lines.extend(procedure_lines(procedure))
    return "".join([line + "\n" for line in lines])


def procedure_lines(procedure):
    """Return the list of the lines of a procedure."""
    name, parameters, results, variables, body = procedure
    behind = "" if results == 1 else ": " + str(results)
    listed = ", ".join([variable_text(parameter) for parameter in parameters])
    lines = ["proc " + name + "(" + listed + ")" + behind + " {"]
    lines.extend([INDENT + "var " + variable_text(variable) + ";" for variable in variables])
    return lines + inner_lines(body) + ["}"]


def variable_text(variable):
    """Return the text of a parameter or a variable."""
    return variable[0] + ": " + str(variable[1])


def inner_lines(block):
    """Return the list of the lines of the statements of a block, indented."""
    lines = []
    for statement in block:
        lines.extend(indented(statement_lines(statement)))
    return lines


def indented(lines):
    """Return the lines with two more spaces before each."""
    return [INDENT + line for line in lines]


def statement_lines(statement):
    """Return the list of the lines of a statement."""
    word = statement[0]
    if word == "if":
        return if_lines(statement)
    if word == "while":
        return ["while " + condition_text(statement[1]) + " {"] + inner_lines(statement[2]) + ["}"]
    if word == "draw":
        return draw_lines(statement[1])
    if word == "choose":
        return choose_lines(statement[1])
    return [simple_text(statement) + ";"]


def if_lines(statement):
    """Return the list of the lines of an if."""
    _, condition, first, second = statement
    lines = ["if " + condition_text(condition) + " {"] + inner_lines(first)
    if len(second) > 0:
        lines = lines + ["} else {"] + inner_lines(second)
    return lines + ["}"]


def draw_lines(branches):
    """Return the list of the lines of a draw."""
    lines = ["draw {"]
    for chance, block in branches:
        lines.extend(indented([rational_text(chance) + " {"] + inner_lines(block) + ["}"]))
    return lines + ["}"]


def choose_lines(blocks):
    """Return the list of the lines of a choice."""
    lines = ["choose {"] + inner_lines(blocks[0])
    for block in blocks[1:]:
        lines = lines + ["} or {"] + inner_lines(block)
    return lines + ["}"]


def simple_text(statement):
    """Return the text of a statement without blocks, without the sign at its end."""
    word = statement[0]
    if word == "set":
        return statement[1] + " = " + expression_text(statement[2])
    if word == "call":
        return call_text(statement)
    if word == "observe":
        return "observe " + condition_text(statement[1])
    if word == "reward":
        return "reward " + rational_text(statement[1])
    if word == "return":
        return "return " + expression_text(statement[1])
    return "stop"


def call_text(call):
    """Return the text of a call, without the sign at its end."""
    _, name, called, arguments = call
    text = "call " + called + "(" + ", ".join([expression_text(argument) for argument in arguments]) + ")"
    return text if name is None else name + " = " + text


def rational_text(rational):
    """Return the text of a rational."""
    n, d = rational
    return str(n) if d == 1 else str(n) + "/" + str(d)


def expression_text(expression):
    """Return the text of an expression."""
    tail = ""
    # The first operands are gone through in a loop: as they need no parentheses mostly, they can stand very deep.
    while expression[0] in SUMS + PRODUCTS:
        word, first, second = expression
        is_closed = second[0] in SUMS or (second[0] in PRODUCTS and word in PRODUCTS)
        tail = SIGNS[word] + operand_text(second, is_closed) + tail
        if first[0] in SUMS and word in PRODUCTS:
            return operand_text(first, True) + tail
        expression = first
    return str(expression[1]) + tail


def operand_text(expression, is_closed):
    """Return the text of an expression, in parentheses if it is closed."""
    text = expression_text(expression)
    return "(" + text + ")" if is_closed else text


def condition_text(condition):
    """Return the text of a condition."""
    tail = ""
    while condition[0] in ("and", "or"):
        word, first, second = condition
        is_closed = second[0] == "or" or (second[0] == "and" and word == "and")
        tail = " " + word + " " + closed_text(second, is_closed) + tail
        if first[0] == "or" and word == "and":
            return closed_text(first, True) + tail
        condition = first
    return literal_text(condition) + tail


def literal_text(condition):
    """Return the text of a condition that is neither and nor or."""
    word = condition[0]
    if word in COMPARISONS:
        return expression_text(condition[1]) + SIGNS[word] + expression_text(condition[2])
    inner = condition[1]
    if inner[0] == "eq":
        return expression_text(inner[1]) + " != " + expression_text(inner[2])
    return "not " + closed_text(inner, inner[0] not in COMPARISONS)


def closed_text(condition, is_closed):
    """Return the text of a condition, in brackets if it is closed."""
    text = condition_text(condition)
    return "[" + text + "]" if is_closed else text
