"""Point 36: version texts, and the steps to parents."""

import itertools
import re
import unittest

from tests.support import new_chunks
from versiontables.commits import read_commit, root_commit, write_commit
from versiontables.errors import InvalidVersion, MissingChunk, UnknownVersion
from versiontables.versions import follow, parse_version

# A version text, but for the bound on its length.
WHOLE = re.compile("(?:(@)|([a-z]{1,12})|/([a-z]{1,12})|:([1-9][0-9]{0,17}))([~^]*)")
SIGNS = [chr(code) for code in range(32, 127) if chr(code) != "%"]


class ParseTest(unittest.TestCase):
    def assert_invalid(self, *texts):
        for text in texts:
            with self.subTest(text), self.assertRaises(InvalidVersion):
                parse_version(text)

    def test_example(self):
        self.assertEqual(parse_version("main~~^"), ("name", "main", "~~^"))
        self.assert_invalid(":07")

    def test_each_base(self):
        bases = [
            ("@", "head", None), ("a", "name", "a"), ("main", "name", "main"), ("abcdefghijkl", "name", "abcdefghijkl"),
            ("/a", "far", "a"), ("/main", "far", "main"), ("/abcdefghijkl", "far", "abcdefghijkl"),
            (":1", "address", 1), (":9", "address", 9), (":10", "address", 10), (":1203", "address", 1203),
            (":" + "9" * 18, "address", 10 ** 18 - 1), (":1" + "0" * 17, "address", 10 ** 17),
        ]
        for text, base, name in bases:
            for steps in ["", "~", "^", "~~", "^^", "~^", "^~", "~~^~^^"]:
                self.assertEqual(parse_version(text + steps), (base, name, steps))

    def test_words_that_are_no_names_in_queries_are_names_here(self):
        for name in ("where", "at", "head", "null"):
            self.assertEqual(parse_version(name), ("name", name, ""))

    def test_names(self):
        self.assert_invalid("abcdefghijklm", "/abcdefghijklm", "abcdefghijklm~", "/abcdefghijklm^", "/", "/~", "//a", "/@", "/:1")
        self.assert_invalid("A", "Main", "maiN", "/Main", "a1", "1a", "a-b", "/a/b", "a/b", "a.b", "1")

    def test_addresses(self):
        self.assert_invalid(":", ":~", ":0", ":00", ":01", ":0~", ":-1", ":+1", ":1a", ":a", "::1", ":1:", ": 1", ":1_0")
        self.assert_invalid(":" + "1" * 19, ":" + "1" * 19 + "~", ":0" + "1" * 17, "1" * 18)

    def test_the_empty_text(self):
        self.assert_invalid("", "~", "^", "~~^", " ")

    def test_spaces(self):
        self.assert_invalid(" main", "main ", "ma in", "main ~", "main~ ", "@ ", " @", "@ ~", "@~ ~", "/ main", ": 7", ":7 ")

    def test_how_many_characters(self):
        for base, kind, name in (("@", "head", None), ("main", "name", "main"), ("/far", "far", "far"), (":77", "address", 77)):
            for sign in "~^":
                for length in (58, 59, 60):
                    steps = sign * (length - len(base))
                    self.assertEqual(parse_version(base + steps), (kind, name, steps))
                self.assert_invalid(base + sign * (61 - len(base)), base + sign * (62 - len(base)), base + sign * 1000)

    def assert_as_told(self, text):
        told = WHOLE.fullmatch(text)
        if told is None or len(text) > 60:
            self.assert_invalid(text)
            return
        head, name, far, address, steps = told.groups()
        if head:
            wanted = ("head", None)
        elif address:
            wanted = ("address", int(address))
        else:
            wanted = ("name", name) if name else ("far", far)
        self.assertEqual(parse_version(text), wanted + (steps,))

    def test_all_short_texts(self):
        for length in range(5):
            for text in map("".join, itertools.product("@az/:09~^ A", repeat=length)):
                self.assert_as_told(text)

    def test_any_other_character_at_any_place(self):
        for text in ("@", "@~^", "main", "main~^", "/far", "/far~^", ":123", ":123~^", "abcdefghijkl", ":" + "7" * 18):
            for place in range(len(text) + 1):
                for sign in SIGNS:
                    self.assert_as_told(text[:place] + sign + text[place:])
                    self.assert_as_told(text[:place] + sign + text[place + 1:])


class FollowTest(unittest.TestCase):
    def setUp(self):
        self.chunks = new_chunks()
        self.root = root_commit(self.chunks)
        self.state = read_commit(self.chunks, self.root)[0]
        self.one = self.add("one", self.root)
        self.two = self.add("two", self.root)
        self.both = self.add("both", self.one, self.two)
        self.tip = self.add("tip", self.both)

    def add(self, message, *parents):
        return write_commit(self.chunks, self.state, parents, message)

    def test_steps(self):
        for commit, steps, wanted in (
            (self.tip, "", self.tip), (self.root, "", self.root), (self.tip, "~", self.both), (self.both, "~", self.one),
            (self.both, "^", self.two), (self.tip, "~~", self.one), (self.tip, "~^", self.two), (self.tip, "~^~", self.root),
            (self.tip, "~~~", self.root), (self.both, "^~", self.root), (self.one, "~", self.root),
        ):
            self.assertEqual(follow(self.chunks, commit, steps), wanted)

    def test_no_such_parent(self):
        for commit, steps in (
            (self.root, "~"), (self.root, "^"), (self.one, "^"), (self.one, "~~"), (self.tip, "^"), (self.tip, "~~~~"),
            (self.tip, "~~^"), (self.tip, "~^^"), (self.both, "^^"), (self.tip, "^~"), (self.tip, "~^~~~~~~"),
        ):
            with self.assertRaises(UnknownVersion):
                follow(self.chunks, commit, steps)

    def test_many_steps(self):
        commits = [self.tip]
        for number in range(100):
            commits.append(self.add(str(number), commits[-1]))
        for count in range(60):
            self.assertEqual(follow(self.chunks, commits[100], "~" * count), commits[100 - count])

    def test_a_commit_that_is_not_held(self):
        self.chunks.drop(self.both)
        for commit, steps in ((self.tip, "~~"), (self.tip, "~^"), (self.both, "~"), (self.both, "^")):
            with self.assertRaises(MissingChunk) as caught:
                follow(self.chunks, commit, steps)
            self.assertEqual(caught.exception.address, self.both)


if __name__ == "__main__":
    unittest.main()
