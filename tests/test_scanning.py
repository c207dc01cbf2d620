"""Points 127 to 129, and oddscall/scanning.py."""

import random
import unittest

from oddscall.scanning import scan
from tests.helpers import error_of

RESERVED = "proc var call if else while draw choose or observe reward stop return and not".split()
SIGNS = "{ } ( ) [ ] : ; , = != < <= > >= + - * /".split()
OPENING = "{(["
CLOSING = "})]"


def problem(text):
    """Return the line, the column and the words of the problem of a text, or None."""
    error = error_of(scan, text)
    return None if error is None else error[1:]


def literal_scan(text):
    """Return the tokens of a text, character by character, or the problem as a tuple of its line, column and words."""
    found, depth, at = [], 0, 0
    while at < len(text):
        line = 1 + text[:at].count("\n")
        column = at - (text[:at].rfind("\n") + 1) + 1
        character = text[at]
        if character in " \n\t":
            at += 1
            continue
        if character == "#":
            while at < len(text) and text[at] != "\n":
                at += 1
            continue
        longest = ""
        for size in range(1, len(text) - at + 1):
            if is_token(text[at:at + size]):
                longest = text[at:at + size]
            elif size > 2:
                break
        if longest == "":
            return (line, column, "no token begins here")
        if longest[0].isalpha() and len(longest) > 8:
            return (line, column, "a word has at most 8 characters")
        if longest[0].isdigit() and len(longest) > 6:
            return (line, column, "a number has at most 6 digits")
        if longest in OPENING:
            if depth == 12:
                return (line, column, "nested too deep")
            depth += 1
        if longest in CLOSING:
            depth = max(0, depth - 1)
        kind = "sign"
        if longest[0].isalpha():
            kind = "reserved" if longest in RESERVED else "name"
        elif longest[0].isdigit():
            kind = "number"
        found.append((kind, longest, line, column))
        at += len(longest)
    found.append(("end", "", 1 + text.count("\n"), len(text) - (text.rfind("\n") + 1) + 1))
    return found


def is_token(text):
    """Return True if the text is one token."""
    if text in SIGNS:
        return True
    if not text.isascii() or not text.isalnum() or text != text.lower():
        return False
    return text[0].isalpha() or text.isdigit()


class TokensTest(unittest.TestCase):
    def kinds(self, text):
        """Return the kinds and the characters of all tokens but the end."""
        return [token[:2] for token in scan(text)[:-1]]

    def test_signs(self):
        for sign in SIGNS:
            self.assertEqual(scan(sign), [("sign", sign, 1, 1), ("end", "", 1, 1 + len(sign))])
            self.assertEqual(scan(" " + sign + " "), [("sign", sign, 1, 2), ("end", "", 1, 3 + len(sign))])
        self.assertEqual([characters for _, characters in self.kinds("<=>=!==<>=-*/=<")], ["<=", ">=", "!=", "=", "<", ">=", "-", "*", "/", "=", "<"])
        self.assertEqual([characters for _, characters in self.kinds("{}()[]:;,+-")], list("{}()[]:;,+-"))

    def test_words(self):
        for word in RESERVED:
            self.assertEqual(self.kinds(word), [("reserved", word)])
            self.assertEqual(self.kinds(word + "1"), [("name", word + "1")])
            self.assertEqual(self.kinds(word + " x"), [("reserved", word), ("name", "x")])
            self.assertEqual(self.kinds(word[:-1]), [("name", word[:-1])])
        for word in ("a", "z", "a0", "x9y", "procs", "ifelse", "andor", "abcdefgh", "a1234567", "int", "end", "name"):
            self.assertEqual(self.kinds(word), [("name", word)])

    def test_numbers(self):
        for number in ("0", "7", "00", "007", "999999", "000000"):
            self.assertEqual(self.kinds(number), [("number", number)])
        self.assertEqual(self.kinds("12ab"), [("number", "12"), ("name", "ab")])
        self.assertEqual(self.kinds("1/2"), [("number", "1"), ("sign", "/"), ("number", "2")])
        self.assertEqual(self.kinds("123456abcdefgh"), [("number", "123456"), ("name", "abcdefgh")])

    def test_words_and_numbers_that_are_too_long(self):
        self.assertIsNone(problem("abcdefgh"))
        self.assertEqual(problem("abcdefghi"), (1, 1, "a word has at most 8 characters"))
        self.assertEqual(problem("x a2345678b"), (1, 3, "a word has at most 8 characters"))
        self.assertEqual(problem("1234567"), (1, 1, "a number has at most 6 digits"))
        self.assertEqual(problem("x\n 0000000"), (2, 2, "a number has at most 6 digits"))
        self.assertEqual(problem("0000000abcdefghi"), (1, 1, "a number has at most 6 digits"))

    def test_characters_that_begin_no_token(self):
        for character in "AZ_.!?\"'$&@^|~`\\%\r\x0b\x0c\x00\xa0\u00e4\u0430\u0661\u00b2\u2028":
            self.assertEqual(problem(character), (1, 1, "no token begins here"), character)
            self.assertEqual(problem("a\n" + character), (2, 1, "no token begins here"), character)
            self.assertEqual(problem("ab1" + character + "c"), (1, 4, "no token begins here"), character)
            self.assertEqual(problem("12" + character), (1, 3, "no token begins here"), character)
        self.assertEqual(problem("! ="), (1, 1, "no token begins here"))
        self.assertEqual(problem("x !"), (1, 3, "no token begins here"))

    def test_comments(self):
        for text in ("#", "# A_\u00e4! {{{{{{{{{{{{{{{{", "#abcdefghijkl 12345678", "# # #"):
            self.assertEqual(scan(text), [("end", "", 1, len(text) + 1)])
            self.assertEqual(scan("a" + text), [("name", "a", 1, 1), ("end", "", 1, len(text) + 2)])
            self.assertEqual(scan("1 " + text + "\nb"), [("number", "1", 1, 1), ("name", "b", 2, 1), ("end", "", 2, 2)])
        self.assertEqual(scan("#\r\n#\u2028\n"), [("end", "", 3, 1)])

    def test_places(self):
        self.assertEqual(scan(""), [("end", "", 1, 1)])
        self.assertEqual(scan("\n\n"), [("end", "", 3, 1)])
        self.assertEqual(scan("\t\t a"), [("name", "a", 1, 4), ("end", "", 1, 5)])
        self.assertEqual(scan("a\n\tb\n\n  c "), [("name", "a", 1, 1), ("name", "b", 2, 2), ("name", "c", 4, 3), ("end", "", 4, 5)])

    def test_open_signs(self):
        for sign in OPENING:
            self.assertIsNone(problem(sign * 12))
            self.assertEqual(problem(sign * 13), (1, 13, "nested too deep"))
            self.assertEqual(problem(sign * 12 + "\n" + sign * 2), (2, 1, "nested too deep"))
        self.assertEqual(problem("({[" * 5), (1, 13, "nested too deep"))
        # A closing sign closes the last one that is open, whatever its shape.
        for sign in CLOSING:
            self.assertIsNone(problem("(" * 12 + sign + "["))
            self.assertEqual(problem("(" * 12 + sign + "[("), (1, 15, "nested too deep"))
            self.assertEqual(problem(sign * 5 + "(" * 13), (1, 18, "nested too deep"))
            self.assertIsNone(problem(sign * 5 + "(" * 12))

    def test_the_first_problem(self):
        self.assertEqual(problem("abcdefghi 1234567"), (1, 1, "a word has at most 8 characters"))
        self.assertEqual(problem("1234567 abcdefghi"), (1, 1, "a number has at most 6 digits"))
        self.assertEqual(problem("{" * 13 + "A"), (1, 13, "nested too deep"))
        self.assertEqual(problem("{" * 12 + "A{"), (1, 13, "no token begins here"))
        self.assertEqual(problem("{" * 12 + "\nabcdefghi{"), (2, 1, "a word has at most 8 characters"))

    def test_random_texts(self):
        dice = random.Random(1)
        pieces = SIGNS + RESERVED + [" ", "\n", "\t", "#", "a", "b7", "12", "0", "abcdefg", "12345", "!", "A", "\u00e4", "(", "[", "{", "{"]
        problems = 0
        for _ in range(3000):
            text = "".join([dice.choice(pieces) for _ in range(dice.randrange(25))])
            wanted = literal_scan(text)
            if isinstance(wanted, tuple):
                self.assertEqual(problem(text), wanted, text)
                problems += 1
            else:
                self.assertEqual(scan(text), wanted, text)
        self.assertTrue(500 < problems < 2500)

    def test_long_texts(self):
        self.assertEqual(len(scan("a " * 4000)), 4001)
        self.assertEqual(len(scan("+" * 8001)), 8002)

    def test_a_new_list(self):
        found = scan("a b")
        self.assertIsInstance(found, list)
        found.clear()
        self.assertEqual(len(scan("a b")), 3)


if __name__ == "__main__":
    unittest.main()
