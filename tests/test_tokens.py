"""Points 37 and 39: tokens, and the faults in them."""

import itertools
import re
import unittest

from versiontables.errors import SyntaxFault
from versiontables.tokens import split_tokens

SIGNS = ["(", ")", ",", "|", "+", "-", "*", "=", "<>", "<", "<=", ">", ">="]
# The longest token of each sort; what is longer than the bound of its sort is a fault.
TOKEN = re.compile("(?P<word>[a-z]+)|(?P<number>[0-9]+)|'(?P<string>[^']*)('|$)|(?P<sign><>|<=|>=|[(),|+*=<>-])")
BOUNDS = {"word": 12, "number": 18, "string": 60, "sign": 2}


def told(text):
    """The tokens of a text, or the column of the first fault, as points 37 and 39 tell."""
    tokens, place = [], 0
    while place < len(text):
        if text[place] == " ":
            place += 1
            continue
        match = TOKEN.match(text, place)
        if match is None:
            return place + 1
        sort = [sort for sort in BOUNDS if match.group(sort) is not None][0]
        value = match.group(sort)
        if len(value) > BOUNDS[sort]:
            return match.start(sort) + BOUNDS[sort] + 1
        if sort == "string" and match.group(4) == "":
            return len(text) + 1
        tokens.append((sort, int(value) if sort == "number" else value, place + 1))
        place = match.end()
    return tokens


class TokensTest(unittest.TestCase):
    def assert_tokens(self, text, wanted):
        self.assertEqual(told(text), wanted)
        self.assertEqual(split_tokens(text), wanted)

    def assert_fault(self, text, column):
        self.assertEqual(told(text), column)
        with self.subTest(text), self.assertRaises(SyntaxFault) as caught:
            split_tokens(text)
        self.assertEqual(caught.exception.column, column)

    def assert_as_told(self, text):
        wanted = told(text)
        if isinstance(wanted, list):
            self.assert_tokens(text, wanted)
        else:
            self.assert_fault(text, wanted)

    def test_no_tokens(self):
        for text in ("", " ", "     "):
            self.assert_tokens(text, [])

    def test_a_query(self):
        self.assert_tokens(
            "pets at 'main~' | where age>=10",
            [
                ("word", "pets", 1), ("word", "at", 6), ("string", "main~", 9), ("sign", "|", 17), ("word", "where", 19),
                ("word", "age", 25), ("sign", ">=", 28), ("number", 10, 30),
            ],
        )

    def test_spaces(self):
        parts = ["a", "1", "b", "'c'", "'d'", "(", "2", "<", "'", "e", "'"]
        for spaces in (1, 2, 5):
            tokens = split_tokens((" " * spaces).join(["", "ab", "12", "'x y'", "<", "=", ""]))
            self.assertEqual([token[:2] for token in tokens], [
                ("word", "ab"), ("number", 12), ("string", "x y"), ("sign", "<"), ("sign", "="),
            ])
            column = 1 + spaces
            for token, length in zip(tokens, (2, 2, 5, 1, 1)):
                self.assertEqual(token[2], column)
                column += length + spaces
        self.assert_tokens("".join(parts), [
            ("word", "a", 1), ("number", 1, 2), ("word", "b", 3), ("string", "c", 4), ("string", "d", 7), ("sign", "(", 10),
            ("number", 2, 11), ("sign", "<", 12), ("string", "e", 13),
        ])
        self.assert_tokens("a b", [("word", "a", 1), ("word", "b", 3)])
        self.assert_tokens("ab", [("word", "ab", 1)])
        self.assert_tokens("1 2", [("number", 1, 1), ("number", 2, 3)])
        self.assert_tokens("< =", [("sign", "<", 1), ("sign", "=", 3)])

    def test_words(self):
        for word in ("a", "z", "where", "abcdefghijkl"):
            self.assert_tokens(word, [("word", word, 1)])
            self.assert_tokens("  " + word + "1", [("word", word, 3), ("number", 1, 3 + len(word))])
        self.assert_fault("abcdefghijklm", 13)
        self.assert_fault("a abcdefghijklmnop", 15)
        self.assert_fault("a" * 26, 13)
        self.assert_tokens("abcdefghijkl m", [("word", "abcdefghijkl", 1), ("word", "m", 14)])

    def test_numbers(self):
        for number in ("0", "7", "10", "9" * 18, "007", "0" * 18, "0" * 17 + "1"):
            self.assert_tokens(number, [("number", int(number), 1)])
            self.assert_tokens(" " + number + "a", [("number", int(number), 2), ("word", "a", 2 + len(number))])
        self.assert_fault("1" * 19, 19)
        self.assert_fault("0" * 19, 19)
        self.assert_fault("(" + "1" * 40, 20)
        self.assert_tokens("1" * 18 + " 1", [("number", int("1" * 18), 1), ("number", 1, 20)])
        self.assert_tokens("-5", [("sign", "-", 1), ("number", 5, 2)])

    def test_strings(self):
        for string in ("", " ", "a", "A.B_c", "(|<>=", "x" * 60, " " * 60, '"'):
            self.assert_tokens("'" + string + "'", [("string", string, 1)])
            self.assert_tokens(" '" + string + "'b", [("string", string, 2), ("word", "b", 4 + len(string))])
        self.assert_fault("'" + "x" * 61 + "'", 62)
        self.assert_fault("'" + "x" * 61, 62)
        self.assert_fault(" '" + "x" * 99 + "'", 63)
        self.assert_tokens("''''", [("string", "", 1), ("string", "", 3)])

    def test_strings_without_an_end(self):
        self.assert_fault("'", 2)
        self.assert_fault("   '", 5)
        self.assert_fault("'abc", 5)
        self.assert_fault("'abc  ", 7)
        self.assert_fault("'" + "x" * 60, 62)
        self.assert_fault("'" + "x" * 59, 61)
        self.assert_fault("'a'b'c", 7)
        self.assert_fault("'''", 4)

    def test_signs(self):
        for sign in SIGNS:
            self.assert_tokens(sign, [("sign", sign, 1)])
            self.assert_tokens("a" + sign + "1", [("word", "a", 1), ("sign", sign, 2), ("number", 1, 2 + len(sign))])
            self.assert_tokens(sign + " " + sign, [("sign", sign, 1), ("sign", sign, 2 + len(sign))])

    def test_the_longest_sign(self):
        for text, signs in (
            ("<>", ["<>"]), ("><", [">", "<"]), ("=<", ["=", "<"]), ("=>", ["=", ">"]), ("<=>", ["<=", ">"]), (">>=", [">", ">="]),
            ("<<>", ["<", "<>"]), ("<>=", ["<>", "="]), (">=>=", [">=", ">="]), ("==", ["=", "="]), ("<==", ["<=", "="]),
            ("--", ["-", "-"]), ("||", ["|", "|"]), ("((", ["(", "("]), ("<<", ["<", "<"]), (">>", [">", ">"]),
        ):
            self.assertEqual([token[1] for token in split_tokens(text)], signs)
            self.assert_as_told(text)

    def test_other_characters(self):
        for code in range(32, 127):
            sign = chr(code)
            self.assert_as_told(sign)
            self.assert_as_told("ab " + sign + " 1")
            self.assert_as_told("12" + sign)
            if sign not in " abcdefghijklmnopqrstuvwxyz0123456789'(),|+-*=<>%":
                self.assert_fault(sign, 1)
                self.assert_fault("ab " + sign + "b", 4)
                self.assert_fault("ab" + sign, 3)

    def test_the_first_of_several_faults(self):
        word, number, string = "a" * 13, "1" * 19, "'" + "x" * 61 + "'"
        faults = {word: 13, number: 19, string: 62, "!": 1, "A": 1, ".": 1, "_": 1}
        for one, two in itertools.permutations(faults, 2):
            self.assert_fault(one + " " + two, faults[one])
            self.assert_fault("a = " + one + " " + two + " '", 4 + faults[one])
        self.assert_fault("'a ! B", 7)
        self.assert_fault("! 'a", 1)

    def test_all_short_texts(self):
        for length in range(5):
            for text in map("".join, itertools.product("a1'<>= !", repeat=length)):
                self.assert_as_told(text)

    def test_a_list_of_its_own(self):
        split_tokens("a b").clear()
        self.assertEqual(len(split_tokens("a b")), 2)


if __name__ == "__main__":
    unittest.main()
