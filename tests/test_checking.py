"""Points 40, 41, 42 and 44: the sources of queries, the kinds of expressions, and the columns of queries."""

import itertools
import random
import unittest

from tests.queries import any_query, random_catalog, valid_query
from versiontables.checking import expression_kind, query_columns, sources
from versiontables.errors import InvalidQuery
from versiontables.parsing import parse_expression, parse_query

COLUMNS = (("n", "int"), ("t", "text"), ("m", "int"))
PETS = (("age", "int"), ("kind", "text"), ("name", "text"))
OTHERS = (("id", "int"), ("owner", "text"))
# Queries that are tested for being valid must not need the rows.
CATALOG = {
    ("pets", None): (PETS, []), ("pets", "old"): (PETS[:2], []), ("others", None): (OTHERS, []), ("same", None): (PETS, []),
    ("turned", None): (PETS[::-1], []), ("unlike", None): ((("age", "text"),) + PETS[1:], []), ("one", None): (PETS[:1], []),
}


class SourcesTest(unittest.TestCase):
    def assert_sources(self, text, *wanted):
        self.assertEqual(sources(parse_query(text)), list(wanted))

    def test_sources(self):
        self.assert_sources("a", ("a", None))
        self.assert_sources("a at 'x'", ("a", "x"))
        self.assert_sources("a at ''", ("a", ""))
        self.assert_sources("a | where b | keep c | group d into count as e | order f | limit 1 | distinct", ("a", None))
        self.assert_sources("a | union (b) | join (c) on d", ("a", None), ("b", None), ("c", None))
        self.assert_sources("b | union (a | join (d) on x | union (c))", ("b", None), ("a", None), ("d", None), ("c", None))
        self.assert_sources("z | union (y | limit 1) | distinct | join (x | order q) on p", ("z", None), ("y", None), ("x", None))

    def test_each_once(self):
        self.assert_sources("a | union (a) | union (a at 'x') | union (a at 'x') | union (a)", ("a", None), ("a", "x"))
        self.assert_sources("a at 'y' | join (a at 'x' | union (a at 'y')) on b", ("a", "y"), ("a", "x"))
        self.assert_sources("b | union (a) | union (b | union (c | union (a)))", ("b", None), ("a", None), ("c", None))
        self.assert_sources("a at 'b' | union (b at 'a') | union (a) | union (b)", ("a", "b"), ("b", "a"), ("a", None), ("b", None))

    def test_random_queries(self):
        def told(tree):
            if tree[0] == "source":
                return [(tree[1], tree[2])]
            return told(tree[1]) + (told(tree[2]) if tree[0] in ("join", "union") else [])

        for seed in range(200):
            tree = any_query(random.Random(seed), 8)
            found = told(tree)
            self.assertEqual(sources(tree), [one for place, one in enumerate(found) if one not in found[:place]])

    def test_a_list_of_its_own(self):
        tree = parse_query("a | union (b)")
        sources(tree).clear()
        self.assertEqual(sources(tree), [("a", None), ("b", None)])


class KindTest(unittest.TestCase):
    def assert_kind(self, text, kind):
        self.assertEqual(expression_kind(parse_expression(text), COLUMNS), kind)

    def assert_invalid(self, *texts):
        for text in texts:
            with self.subTest(text), self.assertRaises(InvalidQuery):
                expression_kind(parse_expression(text), COLUMNS)

    def test_primaries(self):
        self.assert_kind("1", "int")
        self.assert_kind("'x'", "text")
        self.assert_kind("''", "text")
        self.assert_kind("n", "int")
        self.assert_kind("t", "text")
        self.assert_kind("m", "int")
        self.assert_invalid("x", "nn", "int", "text", "truth")

    def test_each_operator(self):
        """Each operator with operands of all kinds."""
        texts = {"n": "int", "1": "int", "t": "text", "'x'": "text", "(n = 1)": "truth", "(t is null)": "truth"}
        wanted = {sign: ("int", ["int"]) for sign in "+-*"}
        wanted.update({sign: ("truth", ["int", "text"]) for sign in ("=", "<>", "<", "<=", ">", ">=")})
        wanted.update({sign: ("truth", ["truth"]) for sign in ("and", "or")})
        for sign, (kind, wants) in wanted.items():
            for one, two in itertools.product(texts, repeat=2):
                text = one + " " + sign + " " + two
                if texts[one] == texts[two] and texts[one] in wants:
                    self.assert_kind(text, kind)
                else:
                    self.assert_invalid(text)
        for one in texts:
            for text, kind, wants in (
                ("- " + one, "int", ["int"]), ("not " + one, "truth", ["truth"]), (one + " is null", "truth", ["int", "text"]),
                (one + " is not null", "truth", ["int", "text"]),
            ):
                if texts[one] in wants:
                    self.assert_kind(text, kind)
                else:
                    self.assert_invalid(text)

    def test_faults_within(self):
        self.assert_kind("n + 2 * -m > 7 and not t = 'x' or t is null", "truth")
        self.assert_kind("-(n - m) * 2", "int")
        self.assert_invalid(
            "n + 2 * -t > 7", "n = 1 and x = 1", "not (n = 'x')", "x is null", "(x = 1) or n = 1", "n = 1 or (n and m = 1)",
            "1 + (2 + (3 + t))", "-(-(-x))", "not not not n", "(n + t) is null", "((x))", "(n = m) = (n = m)",
        )

    def test_no_columns_are_needed(self):
        self.assertEqual(expression_kind(parse_expression("1 + 2"), ()), "int")
        with self.assertRaises(InvalidQuery):
            expression_kind(parse_expression("n"), ())

    def test_long_rows(self):
        self.assert_kind("n" + " + n" * 74, "int")
        self.assert_kind("n = 1" + " and n = 1" * 29, "truth")
        self.assert_invalid("t" + " + n" * 74)


class ColumnsTest(unittest.TestCase):
    def assert_columns(self, text, *wanted):
        self.assertEqual(query_columns(parse_query(text), CATALOG), wanted)

    def assert_same(self, stage):
        self.assert_columns("pets | " + stage, *PETS)

    def assert_invalid(self, *stages):
        """None of the stages is valid behind pets, and neither is what they are a part of."""
        for stage in stages:
            for text in (
                "pets | " + stage, "pets | distinct | " + stage + " | limit 1", "pets | union (pets | " + stage + ")",
                "one | join (pets | " + stage + ") on 1 = 1", "pets | " + stage + " | group into count as n",
            ):
                with self.subTest(text), self.assertRaises(InvalidQuery):
                    query_columns(parse_query(text), CATALOG)

    def test_sources(self):
        self.assert_columns("pets", *PETS)
        self.assert_columns("pets at 'old'", *PETS[:2])
        self.assert_columns("others", *OTHERS)

    def test_where(self):
        self.assert_same("where age > 1 and name is null")
        self.assert_same("where 1 = 1")
        self.assert_invalid("where age", "where name", "where 1", "where 'x'", "where id = 1", "where age = name", "where pets = 1")

    def test_keep(self):
        self.assert_columns("pets | keep name, age", PETS[2], PETS[0])
        self.assert_columns("pets | keep age as name, name as age, 1 as one, '' as none, -age * 2 as less",
                            ("name", "int"), ("age", "text"), ("one", "int"), ("none", "text"), ("less", "int"))
        self.assert_columns("pets | keep age as a, age as b, age", ("a", "int"), ("b", "int"), ("age", "int"))
        self.assert_invalid(
            "keep age, age", "keep age, name as age", "keep 1 as a, 2 as b, 3 as a", "keep age = 1 as a", "keep age is null as a",
            "keep not age = 1 as a", "keep id", "keep age, -name as a", "keep age as a, a as b",
        )

    def test_join(self):
        self.assert_columns("pets | join (others) on age = id", *PETS + OTHERS)
        self.assert_columns("others | join (pets) on owner = name and id > 1", *OTHERS + PETS)
        self.assert_columns("one | join (others | keep id as x, 'a' as y) on age = x", ("age", "int"), ("x", "int"), ("y", "text"))
        self.assert_invalid(
            "join (pets) on 1 = 1", "join (one) on 1 = 1", "join (others | keep id as age) on 1 = 1", "join (others) on id",
            "join (others) on id + age", "join (others) on id = name", "join (others) on pet = 1",
            "join (others | where name = owner) on 1 = 1", "join (others | keep id) on owner = name",
        )

    def test_union(self):
        self.assert_same("union (same)")
        self.assert_same("union (turned | keep age, kind, name)")
        self.assert_same("union (pets | where age = 1 | limit 2)")
        self.assert_columns("one | union (others | keep id as age)", ("age", "int"))
        self.assert_invalid(
            "union (turned)", "union (unlike)", "union (one)", "union (others)", "union (pets at 'old')",
            "union (pets | keep age, kind, name as nam)", "union (pets | keep kind, age, name)", "union (pets | where name)",
        )

    def test_group(self):
        self.assert_columns("pets | group into count as n", ("n", "int"))
        self.assert_columns("pets | group kind into count as n", ("kind", "text"), ("n", "int"))
        self.assert_columns(
            "pets | group name, kind into sum age as a, least age as b, greatest age as age, least name as c, greatest kind as d",
            ("name", "text"), ("kind", "text"), ("a", "int"), ("b", "int"), ("age", "int"), ("c", "text"), ("d", "text"),
        )
        self.assert_columns("pets | group into sum age as kind, count as age", ("kind", "int"), ("age", "int"))
        self.assert_invalid(
            "group kind, kind into count as n", "group kind, name, kind into count as n", "group id into count as n",
            "group kind into count as kind", "group into count as n, count as n", "group kind into count as n, sum age as n",
            "group into sum name as n", "group into sum id as n", "group into least id as n", "group into greatest n as n",
            "group kind into sum kind as n", "group age into least age as age", "group into count as n, sum n as m",
        )

    def test_order(self):
        self.assert_same("order name")
        self.assert_same("order age down, name, age, age down")
        self.assert_invalid("order id", "order age, id", "order pets", "order age down, nam down")

    def test_limit_and_distinct(self):
        self.assert_same("limit 0")
        self.assert_same("limit 3 | distinct")
        self.assert_same("distinct | distinct | limit 999999999999999999")

    def test_stages_behind_others(self):
        self.assert_columns("pets | keep age as a | where a = 1 | order a | group a into count as age | keep age", ("age", "int"))
        self.assert_invalid("keep age as a | where age = 1", "keep name | order age", "group kind into count as n | keep age",
                            "keep age as id | join (others) on 1 = 1", "keep age | union (pets)")
        self.assert_columns("pets" + " | distinct" * 74, *PETS)

    def test_random_queries(self):
        for seed in range(400):
            rng = random.Random(seed)
            catalog = random_catalog(rng)
            tree, columns = valid_query(rng, catalog, rng.choice([1, 3, 6, 10]))
            self.assertEqual(query_columns(tree, catalog), columns)
            for name, kind in columns:
                whole = ("where", tree, ("equal", ("column", name), (kind, "") if kind == "text" else (kind, 0)))
                self.assertEqual(query_columns(whole, catalog), columns)
                other = ("where", tree, ("equal", ("column", name), ("text", "") if kind == "int" else ("int", 0)))
                with self.assertRaises(InvalidQuery):
                    query_columns(other, catalog)


if __name__ == "__main__":
    unittest.main()
