"""Points 134 and 135, and oddscall/writing.py."""

import unittest

from oddscall.reading import read_program
from oddscall.scanning import scan
from oddscall.writing import program_text
from tests.syntax import Maker, Spelling


def written(text):
    """Return the lines that are written for the statements in a text, in a procedure with two variables."""
    program = read_program("proc a() { var x: 2; var y: 3; " + text + " } proc b(n: 2, m: 2): 2 { }")
    lines = program_text(program).split("\n")
    assert lines[:3] == ["proc a() {", "  var x: 2;", "  var y: 3;"], lines
    assert lines[-4:] == ["}", "proc b(n: 2, m: 2): 2 {", "}", ""], lines
    return lines[3:-4]


def literal_expression(tree, closed=False):
    """Return the tokens of an expression by point 135, read word by word."""
    if tree[0] in ("int", "name"):
        return str(tree[1])
    word, first, second = tree
    found = []
    for operand, is_second in ((first, False), (second, True)):
        is_sum, is_times = operand[0] in ("plus", "minus"), operand[0] == "times"
        inner = is_sum and word == "times"
        inner = inner or (is_times and word == "times" and is_second)
        inner = inner or (is_sum and word in ("plus", "minus") and is_second)
        found.append(("(" + literal_expression(operand) + ")") if inner else literal_expression(operand))
    return found[0] + {"plus": " + ", "minus": " - ", "times": " * "}[word] + found[1]


def literal_condition(tree):
    """Return the text of a condition by point 135, read word by word."""
    word = tree[0]
    if word in ("eq", "lt", "le"):
        return literal_expression(tree[1]) + {"eq": " = ", "lt": " < ", "le": " <= "}[word] + literal_expression(tree[2])
    if word == "not":
        inner = tree[1]
        if inner[0] == "eq":
            return literal_expression(inner[1]) + " != " + literal_expression(inner[2])
        text = literal_condition(inner)
        return "not " + (text if inner[0] in ("lt", "le") else "[" + text + "]")
    found = []
    for operand, is_second in ((tree[1], False), (tree[2], True)):
        inner = operand[0] == "or" and (word == "and" or is_second)
        inner = inner or (operand[0] == "and" and word == "and" and is_second)
        found.append("[" + literal_condition(operand) + "]" if inner else literal_condition(operand))
    return found[0] + " " + word + " " + found[1]


class LinesTest(unittest.TestCase):
    def test_the_example(self):
        text = "proc a(): 2 { var x: 2; x = call b(1); return x+1; } proc b(n: 2): 2 { observe n != 0; return 1-(n-0); }"
        wanted = ("proc a(): 2 {\n  var x: 2;\n  x = call b(1);\n  return x + 1;\n}\n"
                  "proc b(n: 2): 2 {\n  observe n != 0;\n  return 1 - (n - 0);\n}\n")
        self.assertEqual(program_text(read_program(text)), wanted)

    def test_procedures(self):
        for text, wanted in (
                ("proc a(){}", "proc a() {\n}\n"), ("proc a():1{}", "proc a() {\n}\n"), ("proc a():03{}", "proc a(): 3 {\n}\n"),
                ("proc a(){}proc b(n:2){}", "proc a() {\n}\nproc b(n: 2) {\n}\n"),
                ("proc a(){}proc b(n:2,m:08):2{var x:1;}", "proc a() {\n}\nproc b(n: 2, m: 8): 2 {\n  var x: 1;\n}\n")):
            self.assertEqual(program_text(read_program(text)), wanted)

    def test_statements(self):
        for text, wanted in (
                ("x=1;", ["  x = 1;"]), ("x=call b(1,x);", ["  x = call b(1, x);"]), ("call b(x+1,(2));", ["  call b(x + 1, 2);"]),
                ("call a();", ["  call a();"]), ("y=call a();", ["  y = call a();"]), ("observe x=1;", ["  observe x = 1;"]),
                ("reward 3;", ["  reward 3;"]), ("reward 6/4;", ["  reward 3/2;"]), ("reward 0/7;", ["  reward 0;"]), ("stop;", ["  stop;"]),
                ("return;", ["  return 0;"]), ("return 0;", ["  return 0;"]), ("return x;", ["  return x;"]), ("", []),
                ("stop;stop;", ["  stop;", "  stop;"])):
            self.assertEqual(written(text), wanted, text)

    def test_blocks(self):
        for text, wanted in (
                ("if x=1{}", ["  if x = 1 {", "  }"]), ("if x=1{stop;}", ["  if x = 1 {", "    stop;", "  }"]),
                ("if x=1{}else{}", ["  if x = 1 {", "  }"]), ("if x=1{}else{stop;}", ["  if x = 1 {", "  } else {", "    stop;", "  }"]),
                ("while x<1{}", ["  while x < 1 {", "  }"]), ("while x<1{x=1;stop;}", ["  while x < 1 {", "    x = 1;", "    stop;", "  }"]),
                ("draw{1{}}", ["  draw {", "    1 {", "    }", "  }"]),
                ("draw{1/3{stop;}4/6{}}", ["  draw {", "    1/3 {", "      stop;", "    }", "    2/3 {", "    }", "  }"]),
                ("choose{}", ["  choose {", "  }"]), ("choose{stop;}or{}or{x=1;}", ["  choose {", "    stop;", "  } or {", "  } or {", "    x = 1;", "  }"])):
            self.assertEqual(written(text), wanted, text)

    def test_blocks_in_blocks(self):
        text = "if x=1 { while x<1 { draw { 1/2 { choose { stop; } or { } } 1/2 { } } } } else { if x=1 { } else { stop; } }"
        self.assertEqual(written(text), [
            "  if x = 1 {", "    while x < 1 {", "      draw {", "        1/2 {", "          choose {", "            stop;",
            "          } or {", "          }", "        }", "        1/2 {", "        }", "      }", "    }", "  } else {", "    if x = 1 {",
            "    } else {", "      stop;", "    }", "  }"])


class OperandsTest(unittest.TestCase):
    def test_expressions(self):
        for text, wanted in (
                ("1+2+3", "1 + 2 + 3"), ("1-2-3", "1 - 2 - 3"), ("(1+2)-3", "1 + 2 - 3"), ("1-(2+3)", "1 - (2 + 3)"), ("1+(2-3)", "1 + (2 - 3)"),
                ("1+(2+3)", "1 + (2 + 3)"), ("1*2*3", "1 * 2 * 3"), ("(1*2)*3", "1 * 2 * 3"), ("1*(2*3)", "1 * (2 * 3)"), ("1+2*3", "1 + 2 * 3"),
                ("1+(2*3)", "1 + 2 * 3"), ("(1*2)-3", "1 * 2 - 3"), ("(1+2)*3", "(1 + 2) * 3"), ("1*(2-3)", "1 * (2 - 3)"),
                ("(1-2)*(3+4)", "(1 - 2) * (3 + 4)"), ("((x))", "x"), ("007", "7"), ("1-2*3*(4-5)-6", "1 - 2 * 3 * (4 - 5) - 6"),
                ("((1+2)*3)*4", "(1 + 2) * 3 * 4"), ("1-((2-3)-4)", "1 - (2 - 3 - 4)")):
            self.assertEqual(written("x=" + text + ";"), ["  x = " + wanted + ";"], text)

    def test_conditions(self):
        for text, wanted in (
                ("x=1", "x = 1"), ("x!=1", "x != 1"), ("not x=1", "x != 1"), ("not [x=1]", "x != 1"), ("x<1", "x < 1"), ("x<=1", "x <= 1"),
                ("x>1", "1 < x"), ("x>=1", "1 <= x"), ("not x<1", "not x < 1"), ("not [x<=1]", "not x <= 1"), ("not x!=1", "not [x != 1]"),
                ("not [not x<1]", "not [not x < 1]"), ("not [x=1 or y=1]", "not [x = 1 or y = 1]"), ("not [x=1 and y=1]", "not [x = 1 and y = 1]"),
                ("x=1 and y=1 and x=2", "x = 1 and y = 1 and x = 2"), ("x=1 and [y=1 and x=2]", "x = 1 and [y = 1 and x = 2]"),
                ("x=1 or y=1 or x=2", "x = 1 or y = 1 or x = 2"), ("x=1 or [y=1 or x=2]", "x = 1 or [y = 1 or x = 2]"),
                ("[x=1 or y=1] or x=2", "x = 1 or y = 1 or x = 2"), ("x=1 or y=1 and x=2", "x = 1 or y = 1 and x = 2"),
                ("x=1 or [y=1 and x=2]", "x = 1 or y = 1 and x = 2"), ("[x=1 and y=1] or x=2", "x = 1 and y = 1 or x = 2"),
                ("[x=1 or y=1] and x=2", "[x = 1 or y = 1] and x = 2"), ("x=1 and [y=1 or x=2]", "x = 1 and [y = 1 or x = 2]"),
                ("not x=1 and y=1", "x != 1 and y = 1"), ("x+1=(y)*2", "x + 1 = y * 2"), ("(x+1)*2<1-(1-y)", "(x + 1) * 2 < 1 - (1 - y)"),
                ("[x=1 or y=1] and [x=2 or y=2]", "[x = 1 or y = 1] and [x = 2 or y = 2]")):
            self.assertEqual(written("observe " + text + ";"), ["  observe " + wanted + ";"], text)
            self.assertEqual(written("while " + text + " { }"), ["  while " + wanted + " {", "  }"], text)

    def test_random_operands(self):
        for seed in range(400):
            maker = Maker(seed)
            maker.names = ["x", "y"]
            tree, truth = maker.expression(4), maker.condition(4)
            spelling = Spelling(seed)
            text = "x = " + " ".join(spelling.expression(tree)) + "; observe " + " ".join(spelling.condition(truth)) + ";"
            self.assertEqual(written(text), ["  x = " + literal_expression(tree) + ";", "  observe " + literal_condition(truth) + ";"])


class ProgramsTest(unittest.TestCase):
    def test_reading_what_was_written(self):
        texts = {}
        for seed in range(300):
            wanted = Maker(seed).program()
            text = Spelling(seed).text(wanted)
            if len(text) > 8000:
                continue
            program = read_program(text)
            found = program_text(program)
            texts.setdefault(found, set()).add(program.procedures)
            if len(found) <= 8000:
                again = read_program(found)
                self.assertEqual(again.procedures, wanted)
                self.assertEqual(program_text(again), found)
                other = Spelling(seed + 1000).text(wanted)
                if len(other) <= 8000:
                    self.assertEqual(program_text(read_program(other)), found)
            self.check_blanks(found)
        self.assertGreater(len(texts), 250)
        self.assertEqual({len(programs) for programs in texts.values()}, {1})

    def check_blanks(self, text):
        """Check the blanks of a text: one space between tokens of a line, but for some signs, and indents."""
        self.assertEqual(text[-1], "\n")
        for line in text[:-1].split("\n"):
            plain = line.lstrip(" ")
            self.assertEqual((len(line) - len(plain)) % 2, 0)
            self.assertNotIn("  ", plain)
            tokens = [token[1] for token in scan(line)[:-1]]
            called = ""
            built = ""
            for before, token in zip([""] + tokens, tokens):
                head = token == "(" and called in ("proc", "call")
                bare = token in (",", ";", ":", ")", "]") or head or before in ("(", "[", "") or "/" in (before, token)
                built += ("" if bare else " ") + token
                called = before if token[0].isalpha() else ""
                called = called if called in ("proc", "call") else ""
            self.assertEqual(built, plain)

    def test_the_greatest_depths(self):
        tree = "1"
        for _ in range(11):
            tree = "(" + tree + "*1" * 8 + "+1" * 8 + ")"
        lines = written("x=" + tree + ";")
        self.assertEqual(written(lines[0]), lines)
        tree = "1=1"
        for _ in range(11):
            tree = "not [" + tree + " and 1=1" * 8 + " or 1=1" * 8 + "]"
        lines = written("observe " + tree + ";")
        self.assertEqual(written(lines[0]), lines)

    def test_equal_calls(self):
        program = read_program("proc a() { draw { 1/2 { } 1/2 { } } }")
        self.assertEqual(program_text(program), program_text(program))


if __name__ == "__main__":
    unittest.main()
