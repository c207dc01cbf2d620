"""Points 130 to 133, and oddscall/reading.py."""

import random
import unittest

from oddscall.reading import Program, next_tokens, read_program
from oddscall.scanning import scan
from tests.helpers import ODD_VALUES, error_of
from tests.syntax import ORDER, Follower, Maker, Spelling, listed, token_text

STARTS = ["a name", "call", "if", "while", "draw", "choose", "observe", "reward", "stop", "return"]
COMPARISONS = ['"="', '"!="', '"<"', '"<="', '">"', '">="']
SUMS = ['"+"', '"-"']
ALL_SIGNS = COMPARISONS + SUMS + ['"*"']
OPERAND = ["a name", "a number", '"("']


def body(text, variables="var x: 2; var y: 3;"):
    """Return the body that is read from the text of statements in a procedure with two variables."""
    return read_program("proc a() { " + variables + text + " } proc b(n: 2, m: 2) { } proc c() { }").procedures[0][4]


def problem(text):
    """Return the line, the column and the words of the problem of a text, or None."""
    error = error_of(read_program, text)
    return None if error is None else error[1:]


def expression(text):
    """Return the expression that is read from a text."""
    return body("x = " + text + ";")[0][2]


def condition(text):
    """Return the condition that is read from a text."""
    return body("observe " + text + ";")[0][1]


class NextTest(unittest.TestCase):
    def test_the_examples(self):
        self.assertEqual(next_tokens("proc a() { x"), ['"="'])
        self.assertEqual(next_tokens("proc a() { observe [1"), ALL_SIGNS)

    def test_each_place(self):
        for text, wanted in (
                ("", ["proc"]), ("# nothing", ["proc"]), ("proc", ["a name"]), ("proc a", ['"("']), ("proc a(", ["a name", '")"']),
                ("proc a(n", ['":"']), ("proc a(n:", ["a number"]), ("proc a(n:2", ['")"', '","']), ("proc a(n:2,", ["a name"]),
                ("proc a()", ['"{"', '":"']), ("proc a():", ["a number"]), ("proc a():2", ['"{"']),
                ("proc a() {", ["a name", "var"] + STARTS[1:] + ['"}"']), ("proc a() { var", ["a name"]), ("proc a() { var x", ['":"']),
                ("proc a() { var x: 2", ['";"']), ("proc a() { var x: 2;", ["a name", "var"] + STARTS[1:] + ['"}"']),
                ("proc a() { }", ["proc", "the end"]), ("proc a() { } proc", ["a name"]), ("proc a() { stop", ['";"']),
                ("proc a() { stop;", STARTS + ['"}"']), ("proc a() { x =", ["a name", "a number", "call", '"("']),
                ("proc a() { x = call", ["a name"]), ("proc a() { x = call f", ['"("']), ("proc a() { x = call f(", OPERAND + ['")"']),
                ("proc a() { x = call f(1", ['")"', '","'] + SUMS + ['"*"']), ("proc a() { x = call f(1,", OPERAND),
                ("proc a() { x = call f()", ['";"']), ("proc a() { call", ["a name"]), ("proc a() { call f()", ['";"']),
                ("proc a() { x = 1", ['";"'] + SUMS + ['"*"']), ("proc a() { x = (", OPERAND), ("proc a() { x = (y", ['")"'] + SUMS + ['"*"']),
                ("proc a() { x = (y)", ['";"'] + SUMS + ['"*"']), ("proc a() { x = 1 *", OPERAND),
                ("proc a() { if", ["a name", "a number", "not", '"("', '"["']), ("proc a() { if not", OPERAND + ['"["']),
                ("proc a() { if [", ["a name", "a number", "not", '"("', '"["']), ("proc a() { if x", ALL_SIGNS),
                ("proc a() { if x <", OPERAND), ("proc a() { if x < 1", ["or", "and", '"{"'] + SUMS + ['"*"']),
                ("proc a() { if [x < 1", ["or", "and", '"]"'] + SUMS + ['"*"']), ("proc a() { if [x < 1]", ["or", "and", '"{"']),
                ("proc a() { if x < 1 or", ["a name", "a number", "not", '"("', '"["']), ("proc a() { if x < 1 {", STARTS + ['"}"']),
                ("proc a() { if x < 1 { }", ["a name", "call", "if", "else"] + STARTS[3:] + ['"}"']),
                ("proc a() { if x < 1 { } else", ['"{"']), ("proc a() { if x < 1 { } else { }", STARTS + ['"}"']),
                ("proc a() { while x < 1 { }", STARTS + ['"}"']), ("proc a() { draw", ['"{"']), ("proc a() { draw {", ["a number"]),
                ("proc a() { draw { 1", ['"{"', '"/"']), ("proc a() { draw { 1/", ["a number"]), ("proc a() { draw { 1/2", ['"{"']),
                ("proc a() { draw { 1/2 {", STARTS + ['"}"']), ("proc a() { draw { 1/2 { }", ["a number", '"}"']),
                ("proc a() { draw { 1 { } }", STARTS + ['"}"']), ("proc a() { choose", ['"{"']),
                ("proc a() { choose { }", STARTS[:6] + ["or"] + STARTS[6:] + ['"}"']), ("proc a() { choose { } or", ['"{"']),
                ("proc a() { observe 1 = 1", ["or", "and", '";"'] + SUMS + ['"*"']), ("proc a() { reward", ["a number"]),
                ("proc a() { reward 1", ['";"', '"/"']), ("proc a() { reward 1/2", ['";"']),
                ("proc a() { return", OPERAND[:2] + ['"("', '";"']), ("proc a() { return 1", ['";"'] + SUMS + ['"*"'])):
            self.assertEqual(next_tokens(text), wanted, text)
            self.assertEqual(next_tokens(text + " # more\n"), wanted, text)

    def test_the_repetitions(self):
        for sign, before, without, others in (
                ("+", "proc a() { x = 1", ['";"', '"*"'], ['";"', '"+"', '"-"', '"*"']), ("-", "proc a() { x = 1", ['";"', '"*"'], ['";"', '"+"', '"-"', '"*"']),
                ("*", "proc a() { x = 1", ['";"', '"+"', '"-"'], ['";"', '"+"', '"-"', '"*"'])):
            self.assertEqual(next_tokens(before + (sign + "1") * 7), others)
            self.assertEqual(next_tokens(before + (sign + "1") * 8), without)
            self.assertEqual(error_of(next_tokens, before + (sign + "1") * 9), ("TextError", 1, 33, listed(without)))
        for word, other in (("or", "and"), ("and", "or")):
            text = "proc a() { if 1=1"
            more = f" {word} 1=1"
            self.assertEqual(next_tokens(text + more * 7), ["or", "and", '"{"'] + SUMS + ['"*"'])
            self.assertEqual(next_tokens(text + more * 8), [other, '"{"'] + SUMS + ['"*"'])
            self.assertEqual(error_of(next_tokens, text + more * 9)[3], listed([other, '"{"'] + SUMS + ['"*"']))
        # Other repetitions have no such bound.
        self.assertEqual(next_tokens("proc a() {" + "stop;" * 30 + "call f(1" + ",1" * 20), ['")"', '","'] + SUMS + ['"*"'])
        self.assertEqual(next_tokens("proc a() { draw {" + "1 { }" * 20), ["a number", '"}"'])
        self.assertEqual(next_tokens("proc a() { choose { }" + "or { }" * 20), STARTS[:6] + ["or"] + STARTS[6:] + ['"}"'])
        self.assertEqual(next_tokens("proc a() { } " * 9), ["proc", "the end"])
        # What is in parentheses or brackets is counted for itself.
        self.assertEqual(next_tokens("proc a() { x = (1" + "+1" * 8 + ")" + "+1" * 7), ['";"', '"+"', '"-"', '"*"'])
        self.assertEqual(next_tokens("proc a() { x = 1" + "+1" * 8 + "*1" * 8), ['";"'])
        self.assertEqual(next_tokens("proc a() { if [1=1" + " or 1=1" * 8 + "]" + " or 1=1" * 7), ["or", "and", '"{"'] + SUMS + ['"*"'])

    def test_random_texts_along_the_grammar(self):
        errors = 0
        for seed in range(250):
            dice = random.Random(seed)
            follower, text = Follower(), ""
            for _ in range(dice.randrange(1, 60)):
                words = follower.words()
                self.assertEqual(next_tokens(text), words, text)
                word = dice.choice(words)
                if word == "the end" or len([1 for one in scan(text) if one[1] in "([{"]) > 11:
                    break
                text += dice.choice((" ", "\n", " # or\n")) + token_text(dice, word)
                follower.take(word)
            wrong = dice.choice([word for word in ORDER[:-1] if word not in follower.words()])
            place = scan(text + "\n")[-1]
            line = place[2]
            wanted = ("TextError", line, 1, listed(follower.words()))
            for behind in ("", " proc", "\nstop ; )"):
                self.assertEqual(error_of(next_tokens, text + "\n" + token_text(dice, wrong) + behind), wanted)
                self.assertEqual(error_of(read_program, text + "\n" + token_text(dice, wrong) + behind), wanted)
                errors += 1
            if "the end" not in follower.words():
                end = scan(text)[-1]
                self.assertEqual(error_of(read_program, text), ("TextError", end[2], end[3], listed(follower.words())))
        self.assertGreater(errors, 500)

    def test_words_of_the_problem(self):
        self.assertEqual(problem(""), (1, 1, "expected proc"))
        self.assertEqual(problem("\n  x"), (2, 3, "expected proc"))
        self.assertEqual(problem("proc a)"), (1, 7, 'expected "("'))
        self.assertEqual(problem("proc a(]"), (1, 8, 'expected a name or ")"'))
        self.assertEqual(problem("proc a() { stop }"), (1, 17, 'expected ";"'))
        self.assertEqual(problem("proc a() { } x"), (1, 14, "expected proc or the end"))
        self.assertEqual(problem("proc a() { return = }"), (1, 19, 'expected a name, a number, "(" or ";"'))
        self.assertEqual(problem("proc a() { observe 1; }"), (1, 21, 'expected "=", "!=", "<", "<=", ">", ">=", "+", "-" or "*"'))
        self.assertEqual(problem("proc a() { observe [1 = 1"), (1, 26, 'expected or, and, "]", "+", "-" or "*"'))
        self.assertEqual(problem("proc a() {"), (1, 11, listed(["a name", "var"] + STARTS[1:] + ['"}"'])))
        self.assertEqual(problem("proc if() { }"), (1, 6, "expected a name"))
        self.assertEqual(problem("proc a() { x = y z; }"), (1, 18, 'expected ";", "+", "-" or "*"'))

    def test_problems_of_tokens_come_first(self):
        for function in (next_tokens, read_program):
            self.assertEqual(error_of(function, "proc proc proc 1234567"), ("TextError", 1, 16, "a number has at most 6 digits"))
            self.assertEqual(error_of(function, ") A"), ("TextError", 1, 3, "no token begins here"))

    def test_what_is_nested_too_deep_can_come_all_the_same(self):
        text = "proc a() { x = " + "(" * 11
        self.assertEqual(next_tokens(text), OPERAND)
        self.assertEqual(error_of(next_tokens, text + "("), ("TextError", 1, 27, "nested too deep"))

    def test_problems_that_are_none_of_the_grammar(self):
        for text in ("proc a(n: 9) { x = y;", "proc a(): 0 { call f(1);", "proc a() { draw { 1/0 { } 1/3 { } }"):
            self.assertEqual(next_tokens(text), STARTS + ['"}"'])

    def test_texts(self):
        for value in ODD_VALUES + (0, b"proc", "a" * 8001, " " * 8001):
            if value not in ("", "a", "rational"):
                self.assertEqual(error_of(next_tokens, value), ("BadValue", "text"))
                self.assertEqual(error_of(read_program, value), ("BadValue", "text"))
        self.assertEqual(next_tokens(" " * 8000), ["proc"])
        self.assertEqual(read_program("proc a() { }" + " " * 7988).procedures, (("a", (), 1, (), ()),))
        self.assertEqual(error_of(read_program, "proc a() { }" + " " * 7989), ("BadValue", "text"))

    def test_a_new_list(self):
        found = next_tokens("proc")
        found.append("more")
        self.assertEqual(next_tokens("proc"), ["a name"])


class ProgramTest(unittest.TestCase):
    def test_procedures(self):
        program = read_program("proc a() { } proc b(n: 1): 2 { var x: 8; } proc c1(n: 07, m: 3): 03 { var x: 2; var y: 2; stop; }")
        self.assertIsInstance(program, Program)
        self.assertEqual(program.procedures, (
            ("a", (), 1, (), ()), ("b", (("n", 1),), 2, (("x", 8),), ()),
            ("c1", (("n", 7), ("m", 3)), 3, (("x", 2), ("y", 2)), (("stop",),))))

    def test_statements(self):
        stop = (("stop",),)
        truth = ("eq", ("int", 1), ("int", 1))
        for text, wanted in (
                ("x = y;", ("set", "x", ("name", "y"))), ("x = call c();", ("call", "x", "c", ())),
                ("y = call b(1, x);", ("call", "y", "b", (("int", 1), ("name", "x")))), ("call b(x, 2);", ("call", None, "b", (("name", "x"), ("int", 2)))),
                ("call a();", ("call", None, "a", ())), ("if 1 = 1 { stop; }", ("if", truth, stop, ())),
                ("if 1 = 1 { } else { stop; }", ("if", truth, (), stop)), ("if 1 = 1 { stop; } else { }", ("if", truth, stop, ())),
                ("while 1 = 1 { stop; }", ("while", truth, stop)), ("while 1 = 1 { }", ("while", truth, ())),
                ("draw { 1/3 { } 4/6 { stop; } }", ("draw", (((1, 3), ()), ((2, 3), stop)))), ("draw { 1 { } }", ("draw", (((1, 1), ()),))),
                ("draw { 7/7 { } }", ("draw", (((1, 1), ()),))), ("choose { stop; }", ("choose", (stop,))),
                ("choose { } or { stop; } or { } or { }", ("choose", ((), stop, (), ()))), ("observe 1 = 1;", ("observe", truth)),
                ("reward 3;", ("reward", (3, 1))), ("reward 0;", ("reward", (0, 1))), ("reward 10/4;", ("reward", (5, 2))),
                ("reward 0/5;", ("reward", (0, 1))), ("reward 1000/12;", ("reward", (250, 3))), ("stop;", ("stop",)),
                ("return x;", ("return", ("name", "x"))), ("return;", ("return", ("int", 0))), ("return 0;", ("return", ("int", 0)))):
            self.assertEqual(body(text), (wanted,), text)
            self.assertEqual(body("stop;" + text + "stop;"), (("stop",), wanted, ("stop",)), text)

    def test_expressions(self):
        x, one, two, three = ("name", "x"), ("int", 1), ("int", 2), ("int", 3)
        for text, wanted in (
                ("1", one), ("x", x), ("000012", ("int", 12)), ("((x))", x), ("x - 1 - 2", ("minus", ("minus", x, one), two)),
                ("x - (1 - 2)", ("minus", x, ("minus", one, two))), ("x + 1 - 2 + 3", ("plus", ("minus", ("plus", x, one), two), three)),
                ("x * 1 * 2", ("times", ("times", x, one), two)), ("x * (1 * 2)", ("times", x, ("times", one, two))),
                ("x + 1 * 2", ("plus", x, ("times", one, two))), ("x * 1 + 2", ("plus", ("times", x, one), two)),
                ("x * (1 + 2)", ("times", x, ("plus", one, two))), ("(x + 1) * 2 - 3", ("minus", ("times", ("plus", x, one), two), three)),
                ("x - 1 * 2 * 3 - x", ("minus", ("minus", x, ("times", ("times", one, two), three)), x))):
            self.assertEqual(expression(text), wanted, text)

    def test_conditions(self):
        x, one = ("name", "x"), ("int", 1)
        a, b, c = ("eq", x, one), ("lt", x, one), ("le", x, one)
        for text, wanted in (
                ("x = 1", a), ("x < 1", b), ("x <= 1", c), ("x != 1", ("not", a)), ("x > 1", ("lt", one, x)), ("x >= 1", ("le", one, x)),
                ("[x = 1]", a), ("[[x = 1]]", a), ("not x = 1", ("not", a)), ("not x != 1", ("not", ("not", a))), ("not [not x = 1]", ("not", ("not", a))),
                ("(x) = (1)", a), ("x = 1 and x < 1 and x <= 1", ("and", ("and", a, b), c)), ("x = 1 or x < 1 or x <= 1", ("or", ("or", a, b), c)),
                ("x = 1 or x < 1 and x <= 1", ("or", a, ("and", b, c))), ("x = 1 and x < 1 or x <= 1", ("or", ("and", a, b), c)),
                ("x = 1 and [x < 1 or x <= 1]", ("and", a, ("or", b, c))), ("[x = 1 or x < 1] and x <= 1", ("and", ("or", a, b), c)),
                ("not [x = 1 or x < 1]", ("not", ("or", a, b))), ("not x = 1 and x < 1", ("and", ("not", a), b)),
                ("not x > 1", ("not", ("lt", one, x))), ("not [x >= 1]", ("not", ("le", one, x))),
                ("x + 1 = x - 1", ("eq", ("plus", x, one), ("minus", x, one)))):
            self.assertEqual(condition(text), wanted, text)

    def test_random_programs(self):
        for seed in range(300):
            wanted = Maker(seed).program()
            text = Spelling(seed).text(wanted)
            if len(text) <= 8000:
                found = read_program(text)
                self.assertEqual(found.procedures, wanted, text)
                self.check_places(found, text)

    def check_places(self, program, text):
        """Check the places of all statements against the tokens of the text: each begins behind one of five signs or words."""
        tokens = scan(text)
        wanted = []
        for before, token in zip(tokens, tokens[1:]):
            if before[1] in ("{", "}", ";") and token[1] not in ("{", "}", "var", "else", "or", "proc", "") and token[0] != "number":
                wanted.append(token[2:])
        self.assertEqual([program.place_of(number) for number in range(len(wanted))], wanted)
        self.assertEqual(error_of(program.place_of, len(wanted)), ("BadValue", "statement"))

    def test_places(self):
        text = "proc a() {\n  var x: 2;\n  if x = 1 { stop; x = 1; } else {\n\tdraw { 1 { return; } }\n  }\n choose { call a(); } or { while 1=1 { } } }\nproc b() { observe 1=1; }"
        program = read_program(text)
        places = [(3, 3), (3, 14), (3, 20), (4, 2), (4, 13), (6, 2), (6, 11), (6, 28), (7, 12)]
        self.assertEqual([program.place_of(number) for number in range(9)], places)
        for value in ODD_VALUES + (-1, 9, (0,), "0"):
            self.assertEqual(error_of(program.place_of, value), ("BadValue", "statement"), value)
        self.assertEqual(error_of(read_program("proc a() { }").place_of, 0), ("BadValue", "statement"))

    def test_blanks_and_comments_change_nothing_but_places(self):
        text = "proc a ( ) : 2 { var x : 2 ; x = call b ( 1 ) ; return x + 1 ; } proc b ( n : 2 ) { observe n != 0 ; draw { 1 / 2 { } 1 / 2 { } } }"
        wanted = read_program(text).procedures
        for blank in ("\n", "\t\t", " # x A\n", "\n#\n#}\n  "):
            other = blank + text.replace(" ", blank) + blank
            self.assertEqual(read_program(other).procedures, wanted)
        self.assertEqual(read_program(text + "#").procedures, wanted)


class ProblemsTest(unittest.TestCase):
    def check(self, text, words, more=""):
        """Check that a text has the problem at the first sign ^ in it, which is taken away, alone and with a later one."""
        at = text.index("^")
        plain = text.replace("^", "", 1)
        line = 1 + plain[:at].count("\n")
        column = at - (plain[:at].rfind("\n") + 1) + 1
        self.assertEqual(problem(plain), (line, column, words), plain)
        # A later problem does not matter, and one of the grammar or of a token comes before.
        late = plain + "\nproc zz(x: 9) { }"
        self.assertEqual(problem(late), (line, column, words), late)
        wrong = plain + "\n;"
        self.assertEqual(problem(wrong)[:2], (2 + plain.count("\n"), 1), wrong)
        self.assertEqual(problem(plain + "\n!"), (2 + plain.count("\n"), 1, "no token begins here"))

    def statement(self, text, words):
        """Check the problem of a statement, in the first procedure and in a later one."""
        self.check("proc a() { var x: 2; var y: 3; " + text + " } proc b(n: 2, m: 2) { } proc c() { }", words)
        self.check("proc c() { } proc b(n: 2, m: 2) { } proc a(x: 2) { var y: 3; stop; if x = 1 { " + text + " } }", words)

    def test_procedures(self):
        self.check("".join([f"proc a{number}() {{ }}\n" for number in range(6)]) + "proc ^b() { }", "a program has at most 6 procedures")
        self.check("".join([f"proc a{number}() {{ }}\n" for number in range(6)]) + "proc ^a0() { }", "a program has at most 6 procedures")
        self.assertIsNone(problem("".join([f"proc a{number}() {{ }}\n" for number in range(6)])))
        self.check("proc a() { } proc b() { } proc ^a() { }", "this name stands already")
        self.check("proc a() { } proc b() { } proc ^b(x: 9) { }", "this name stands already")

    def test_variables(self):
        self.check("proc a(^x: 2) { }", "the first procedure has no parameters")
        self.check("proc a(^x: 9, x: 9) { }", "the first procedure has no parameters")
        self.check("proc a() { } proc b(a: 1, b: 1, c: 1, d: 1, e: 1, ^f: 1) { }", "a procedure has at most 5 variables")
        self.check("proc a() { } proc b(a: 1, b: 1, c: 1) { var d: 1; var e: 1; var ^a: 1; }", "a procedure has at most 5 variables")
        self.check("proc a() { var a: 1; var b: 1; var c: 1; var d: 1; var e: 1; var ^f: 9; }", "a procedure has at most 5 variables")
        self.assertIsNone(problem("proc a() { var a: 1; var b: 1; var c: 1; var d: 1; var e: 1; }"))
        self.check("proc a() { var a: 1; var ^a: 9; }", "this name stands already")
        self.check("proc a() { } proc b(n: 1, m: 1, ^n: 2) { }", "this name stands already")
        self.check("proc a() { } proc b(n: 1) { var ^n: 2; }", "this name stands already")
        # A variable may have the name of a procedure, and of one in another procedure.
        self.assertIsNone(problem("proc a() { var a: 1; var x: 1; } proc b(a: 1) { var b: 1; var x: 1; }"))
        for number in ("0", "9", "00", "10", "999999"):
            self.check("proc a() { var x: ^" + number + "; }", "a size is from 1 to 8")
            self.check("proc a() { } proc b(n: 1, m: ^" + number + ") { }", "a size is from 1 to 8")
        for number in ("1", "8", "08"):
            self.assertIsNone(problem("proc a() { var x: " + number + "; } proc b(n: " + number + ") { }"))

    def test_results(self):
        for number in ("0", "4", "10"):
            self.check("proc a(): ^" + number + " { }", "results are from 1 to 3")
        for number in ("1", "2", "3", "003"):
            self.assertIsNone(problem("proc a(): " + number + " { }"))

    def test_names(self):
        for text in ("^z = 1;", "x = ^z;", "x = 1 + y * (2 - ^z);", "^z = call c();", "x = call b(1, ^z);", "call b(^z, z);", "if ^z = 1 { }",
                     "while not [x = 1 or 1 < ^z] { }", "observe x = y and x != ^z;", "return ^z;", "^z = z;", "x = ^z + w;", "^c = 1;",
                     "choose { } or { stop; x = ^z; }", "draw { 1/2 { } 1/2 { ^z = 1; } }", "observe ^z > w;"):
            self.statement(text, "this name is unknown")
        # Parameters and variables of other procedures are unknown.
        self.check("proc a() { var x: 1; } proc b(n: 1) { ^x = 1; }", "this name is unknown")
        self.check("proc a() { } proc b(n: 1) { n = 1; } proc c() { return ^n; }", "this name is unknown")

    def test_calls(self):
        for text in ("call ^d();", "x = call ^d(1, z);", "call ^x();"):
            self.statement(text, "this procedure is unknown")
        for text in ("call ^b();", "call ^b(1);", "call ^b(1, 1, 1);", "x = call ^c(x);", "x = call ^b(z);", "call ^c(1, z);"):
            self.statement(text, "wrong number of arguments")
        # All procedures are known from the beginning, and the first one with a name counts.
        self.assertIsNone(problem("proc a() { call b(1); } proc b(n: 1) { call a(); call b(2); }"))
        self.check("proc a() { call b(1); call ^b(); } proc b(n: 1) { } proc b() { }", "wrong number of arguments")
        self.check("proc a() { call b(1); } proc b(n: 1) { } proc ^b() { }", "this name stands already")

    def test_operands(self):
        self.statement("x = (1+1)+1+1+1+1+1+1+1^+1;", "too many operands")
        self.statement("x = (1+1+1+1+1)-1-1-1-1^-1;", "too many operands")
        self.statement("x = ((1+1+1+1)+1+1+1)-1-1^+1-1;", "too many operands")
        self.statement("x = (1+1+1+1+1+1+1+1+1)^+1;", "too many operands")
        self.statement("x = 2*((1+1+1+1+1+1+1+1+1)^-1);", "too many operands")
        self.statement("x = (1*1*1*1)*1*1*1*1*1^*1;", "too many operands")
        self.statement("observe [1=1 or 1=1] or 1=1 or 1=1 or 1=1 or 1=1 or 1=1 or 1=1 or 1=1 ^or 1=1;", "too many operands")
        self.statement("if [1=1 and 1=1 and 1=1] and 1=1 and 1=1 and 1=1 and 1=1 and 1=1 and 1=1 ^and 1=1 { }", "too many operands")
        self.statement("while [[1=1 and 1=1] and 1=1] and 1=1 and 1=1 and 1=1 and 1=1 and 1=1 and 1=1 ^and 1=1 { }", "too many operands")
        for text in ("x = 1+1+1+1+1+1+1+1+1;", "x = (1+1)+1+1+1+1+1+1+1;", "x = 1*1*1*1*1*1*1*1*1+1+1+1+1+1+1+1+1;",
                     "x = (1+1+1+1+1+1+1+1+1)*1*1*1*1*1*1*1*1;", "x = (1*1*1*1*1*1*1*1*1)-1-1-1-1-1-1-1-1;",
                     "x = 1+(1+1+1+1+1+1+1+1+1)+1+1+1+1+1+1+1;", "observe [1=1 and 1=1 and 1=1] or 1=1 or 1=1 or 1=1 or 1=1 or 1=1 or 1=1 or 1=1 or 1=1;",
                     "observe not [1=1 or 1=1 or 1=1] or 1=1 or 1=1 or 1=1 or 1=1 or 1=1 or 1=1 or 1=1 or 1=1;"):
            self.assertEqual(len(body(text)), 1, text)

    def test_rationals(self):
        for text in ("draw { ^1/0 { } 1/2 { } }", "draw { 1/2 { } ^0/0 { } }", "reward ^1/0;", "reward ^0/00;"):
            self.statement(text, "a denominator is not 0")
        self.statement("draw { 1/4 { } 1/4 { } 1/4 { } 1/8 { } ^1/8 { } }", "a draw has at most 4 branches")
        self.statement("draw { 1/4 { } 1/4 { } 1/4 { } 1/8 { } ^1/61 { } 1/0 { } }", "a draw has at most 4 branches")
        self.statement("draw { 1/4 { } 1/4 { } 1/4 { } 1/8 { } ^1/0 { } }", "a denominator is not 0")
        for text in ("draw { ^0 { } 1 { } }", "draw { 1 { } ^0/3 { } }", "draw { ^1/61 { } 60/61 { } }", "draw { 1/2 { } ^3/122 { } 1/0 { } }"):
            self.statement(text, "this chance is not valid")
        self.assertEqual(body("draw { 61/122 { } 1/2 { } }"), (("draw", (((1, 2), ()), ((1, 2), ()))),))
        for text in ("reward ^1001;", "reward ^1001/2;", "reward ^1/13;", "reward ^1000/13;", "reward ^999999/999998;"):
            self.statement(text, "this amount is not valid")
        for text in ("reward 1000;", "reward 2000/2;", "reward 1/12;", "reward 13/26;", "reward 0/13;"):
            self.assertEqual(body(text)[0][0], "reward", text)

    def test_totals(self):
        for text in ("^draw { 1/2 { } 1/3 { } }", "^draw { 1/2 { } }", "^draw { 2/3 { } 2/3 { } }", "^draw { 3 { } }",
                     "draw { 1 { ^draw { 1/2 { } } } }", "draw { 1/2 { ^draw { 1/2 { } } } }"):
            self.statement(text, "the total of the chances is not 1")
        # It is noticed behind the last branch, so that a problem in a branch comes before.
        self.statement("draw { 1/2 { x = ^z; } 1/3 { } }", "this name is unknown")
        self.statement("draw { 1/2 { } 1/3 { call ^d(); } }", "this procedure is unknown")
        self.statement("^draw { 1/2 { } 1/3 { } } x = z;", "the total of the chances is not 1")
        self.statement("draw { 1/2 { } 1/4 { } ^1/61 { } }", "this chance is not valid")

    def test_choices(self):
        self.statement("choose { } or { } or { } or { } ^or { } or { x = z; }", "a choice has at most 4 blocks")
        self.statement("choose { } or { } or { } or { x = ^z; } or { }", "this name is unknown")
        self.statement("choose { } or { } or { } or { } ^or { x = z; }", "a choice has at most 4 blocks")

    def test_from_left_to_right(self):
        pieces = [
            ("x = ^z;", "this name is unknown"), ("call ^d();", "this procedure is unknown"), ("call ^b(1);", "wrong number of arguments"),
            ("reward ^1/0;", "a denominator is not 0"), ("reward ^1/13;", "this amount is not valid"),
            ("^draw { 1/2 { } }", "the total of the chances is not 1"), ("draw { ^0 { } 1 { } }", "this chance is not valid"),
            ("choose { } or { } or { } or { } ^or { }", "a choice has at most 4 blocks"),
            ("x = (1+1)+1+1+1+1+1+1+1^+1;", "too many operands")]
        for one, words in pieces:
            for other, _ in pieces:
                self.statement(one + " " + other.replace("^", ""), words)


if __name__ == "__main__":
    unittest.main()
