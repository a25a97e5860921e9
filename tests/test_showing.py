"""Point 40: texts whose trees are the given ones."""

import random
import unittest

from tests.queries import any_expression, any_query, write, write_query
from tests.test_parsing import A, B, C, PETS
from versiontables.parsing import parse_expression, parse_query
from versiontables.showing import show_expression, show_query


class ShowTest(unittest.TestCase):
    def assert_expression(self, tree):
        text = show_expression(tree)
        self.assertIs(type(text), str)
        self.assertEqual(parse_expression(text), tree, text)

    def assert_query(self, tree):
        text = show_query(tree)
        self.assertIs(type(text), str)
        self.assertEqual(parse_query(text), tree, text)

    def test_each_expression(self):
        for tree in (
            ("int", 0), ("int", 10 ** 18 - 1), ("text", ""), ("text", " a|b "), ("text", "not"), A, ("column", "abcdefghijkl"),
        ):
            self.assert_expression(tree)
        for word in ("neg", "not", "null"):
            self.assert_expression((word, A))
        self.assert_expression(("not", ("null", A)))
        for word in ("add", "sub", "mul", "equal", "unequal", "less", "atmost", "more", "atleast", "and", "or"):
            self.assert_expression((word, A, B))

    def test_all_pairs_of_operators(self):
        one = [(word,) for word in ("neg", "not", "null")]
        two = [(word, C) for word in ("add", "sub", "mul", "equal", "unequal", "less", "atmost", "more", "atleast", "and", "or")]
        trees = [A] + [(told[0], A) + told[1:] for told in one + two] + [("not", ("null", A))]
        trees += [(told[0], tree) + told[1:] for told in one + two for tree in trees] + [(told[0], C, tree) for told in two for tree in trees]
        self.assertEqual(len(trees), 16 + 14 * 16 + 11 * 16)
        for tree in trees:
            self.assert_expression(tree)
            self.assert_expression(("not", tree))
            self.assert_expression(("sub", B, tree))
            self.assert_expression(("equal", tree, B))
            self.assert_expression(("null", tree))

    def test_each_query(self):
        total = (("count", None, "n"), ("sum", "a", "b"), ("least", "a", "a"), ("greatest", "b", "c"))
        for tree in (
            PETS, ("source", "pets", ""), ("source", "pets", "main~ x"), ("where", PETS, ("and", A, B)), ("keep", PETS, ((A, "a"),)),
            ("keep", PETS, ((A, "b"),)), ("keep", PETS, ((A, "b"), (("add", A, B), "a"), (("not", A), "c"), (B, "b"))),
            ("join", PETS, ("where", PETS, A), ("or", A, B)), ("union", PETS, PETS), ("union", ("union", PETS, PETS), ("union", PETS, PETS)),
            ("group", PETS, (), total[:1]), ("group", PETS, ("a",), total), ("group", PETS, ("a", "b", "a"), total[1:]),
            ("order", PETS, (("a", 0),)), ("order", PETS, (("a", 1), ("b", 0), ("c", 1))), ("limit", PETS, 0),
            ("limit", PETS, 10 ** 18 - 1), ("distinct", PETS), ("distinct", ("distinct", ("limit", ("distinct", PETS), 3))),
        ):
            self.assert_query(tree)
            self.assert_query(("distinct", tree))
            self.assert_query(("union", tree, ("join", PETS, tree, A)))

    def test_twelve_levels(self):
        texts = ["(" * 11 + "-a" + ")" * 11, "-" * 12 + "a", "not " * 12 + "a", "not " * 6 + "-" * 6 + "a", "-(a + " * 6 + "b" + ")" * 6]
        texts += ["not (a and " * 6 + "b" + ")" * 6, "(a + b) * " * 8 + "c", "(a * b - (" * 6 + "a" + "))" * 6, "not " * 11 + "(a is not null) = b"]
        texts += ["a - (" * 12 + "b" + ")" * 12, "(" * 12 + "a - b" + ") * c" * 12, "not " * 12 + "a is not null", "(" * 12 + "a = b" + ") = c" * 12]
        texts += ["(" * 12 + "a is null" + ") is not null" * 12]
        for test in ("a + b is not null", "a - b is null", "a + b < c - d", "a * b is not null", "a or b and c", "not a is not null"):
            texts.append("(" * (11 if test[:3] == "not" else 12) + test + ") = c" * (11 if test[:3] == "not" else 12))
        for text in texts:
            self.assert_expression(parse_expression(text))
        self.assert_query(parse_query("a | union (" * 12 + "b" + ")" * 12))
        self.assert_query(parse_query("a | join (" * 12 + "b" + ") on a" * 12))
        self.assert_query(parse_query("a | join (" * 5 + "b | where " + "-" * 7 + "a" + ") on a" * 5))

    def test_long_rows(self):
        for word in ("add", "sub", "mul", "and", "or"):
            tree = A
            for _ in range(74):
                tree = (word, tree, B)
            self.assert_expression(tree)
        tree = PETS
        for _ in range(74):
            tree = ("distinct", tree)
        self.assert_query(tree)

    def test_random_expressions(self):
        for seed in range(1500):
            rng = random.Random(seed)
            tree = any_expression(rng, rng.choice([2, 5, 12, 30]))
            # A tree that some text gives can be shown, so a text with the least parentheses is a fair one.
            if write(random.Random(seed), tree, more=0)[1] <= 12 or write(rng, tree, more=0)[1] <= 12:
                self.assert_expression(tree)

    def test_random_queries(self):
        for seed in range(800):
            rng = random.Random(seed)
            tree = any_query(rng, rng.choice([2, 4, 7]))
            if write_query(rng, tree)[1] <= 12:
                self.assert_query(tree)


if __name__ == "__main__":
    unittest.main()
