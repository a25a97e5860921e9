"""Points 2 to 5: names, values, kinds, digests."""

import unittest

from tests.support import text_digest
from versiontables.values import accepts, base_kind, digest, is_name

SIGNS = [chr(code) for code in range(32, 127) if chr(code) != "%"]
LETTERS = "abcdefghijklmnopqrstuvwxyz"
NUMBERS = [0, 1, -1, 7, -12, 10 ** 60 - 1, 1 - 10 ** 60]
TEXTS = ["", "0", "7", "int", "n", " ", "~" * 60]


class KindsTest(unittest.TestCase):
    def test_base_kinds(self):
        self.assertEqual(base_kind("int"), "int")
        self.assertEqual(base_kind("int?"), "int")
        self.assertEqual(base_kind("text"), "text")
        self.assertEqual(base_kind("text?"), "text")

    def test_integers(self):
        for value in NUMBERS:
            with self.subTest(value):
                self.assertIs(accepts("int", value), True)
                self.assertIs(accepts("int?", value), True)
                self.assertIs(accepts("text", value), False)
                self.assertIs(accepts("text?", value), False)

    def test_texts(self):
        for value in TEXTS:
            with self.subTest(value):
                self.assertIs(accepts("int", value), False)
                self.assertIs(accepts("int?", value), False)
                self.assertIs(accepts("text", value), True)
                self.assertIs(accepts("text?", value), True)

    def test_none(self):
        self.assertIs(accepts("int", None), False)
        self.assertIs(accepts("text", None), False)
        self.assertIs(accepts("int?", None), True)
        self.assertIs(accepts("text?", None), True)


class NamesTest(unittest.TestCase):
    def test_lengths(self):
        for letter in "amz":
            self.assertIs(is_name(""), False)
            for length in range(1, 13):
                with self.subTest(letter, length=length):
                    self.assertIs(is_name(letter * length), True)
            for length in (13, 14, 60):
                with self.subTest(letter, length=length):
                    self.assertIs(is_name(letter * length), False)

    def test_each_sign_alone(self):
        for sign in SIGNS:
            with self.subTest(sign):
                self.assertIs(is_name(sign), sign in LETTERS)

    def test_each_sign_at_each_place(self):
        for length in (2, 3, 12):
            for place in range(length):
                for sign in SIGNS:
                    text = "k" * place + sign + "k" * (length - 1 - place)
                    with self.subTest(text):
                        self.assertIs(is_name(text), sign in LETTERS)

    def test_all_letters(self):
        self.assertIs(is_name(LETTERS[:12]), True)
        self.assertIs(is_name(LETTERS[12:24]), True)
        self.assertIs(is_name(LETTERS[24:]), True)
        self.assertIs(is_name(LETTERS[:13]), False)


class DigestTest(unittest.TestCase):
    def test_known_digests(self):
        self.assertEqual(digest(""), 7)
        self.assertEqual(digest(" "), 249)
        self.assertEqual(digest("a"), 314)
        self.assertEqual(digest("ab"), 9832)
        self.assertEqual(digest("ba"), 9862)
        self.assertEqual(digest("abc"), 304891)
        # 31 * 304891 + 100 is 9451721, which is 9 * 1000003 + 451694.
        self.assertEqual(digest("abcd"), 451694)

    def test_each_sign(self):
        for sign in SIGNS:
            with self.subTest(sign):
                self.assertEqual(digest(sign), 217 + ord(sign))
                self.assertEqual(digest("q" + sign), text_digest("q" + sign))

    def test_remainders(self):
        # The least and the greatest remainder, and what follows them.
        self.assertEqual(digest("z767000"), 0)
        self.assertEqual(digest("z767000x"), 120)
        self.assertEqual(digest("z1212406"), 1000002)
        self.assertEqual(digest("z1212406 "), 1)

    def test_long_texts(self):
        texts = ["a" * 60, "~" * 60, " " * 60, "(n;:" * 15, "".join(SIGNS)[:60], "".join(SIGNS)[-60:], "z" * 59 + "a"]
        for text in texts:
            for length in (58, 59, 60):
                with self.subTest(text[:length]):
                    self.assertEqual(digest(text[:length]), text_digest(text[:length]))

    def test_longer_texts(self):
        text = "".join(SIGNS) * 20
        self.assertEqual(digest(text), text_digest(text))


if __name__ == "__main__":
    unittest.main()
