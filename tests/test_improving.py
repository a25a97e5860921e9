"""Point 45: improved queries."""

import copy
import random
import unittest

from tests.queries import random_catalog, valid_query
from tests.test_running import CATALOG
from versiontables.checking import query_columns
from versiontables.improving import improve_query
from versiontables.parsing import parse_query
from versiontables.running import run_query


def named(tree):
    """The names of the columns that an expression names."""
    if tree[0] == "column":
        return {tree[1]}
    return set().union(*[named(part) for part in tree[1:] if isinstance(part, tuple)])


def names_of(tree, catalog):
    return {name for name, _ in query_columns(tree, catalog)}


def is_early(tree, catalog):
    """Whether a `where` is of none of the kinds that point 45 names."""
    query, names = tree[1], named(tree[2])
    if query[0] in ("where", "order", "distinct", "union"):
        return False
    if query[0] == "keep":
        return not names <= {name for expression, name in query[2] if expression[0] == "column"}
    if query[0] == "join":
        return not names <= names_of(query[1], catalog) and not names <= names_of(query[2], catalog)
    return query[0] != "group" or not names <= set(query[2])


def queries_in(tree):
    """The query itself, what stands before each of its stages, and all inner queries."""
    found = [tree]
    for part in tree[1:2] * (tree[0] != "source") + tree[2:3] * (tree[0] in ("join", "union")):
        found += queries_in(part)
    return found


class ImproveTest(unittest.TestCase):
    def assert_improved(self, tree, catalog):
        """The improved query has the same columns and rows, and no `where` of the kinds named; return it."""
        before = copy.deepcopy(catalog)
        improved = improve_query(tree, catalog)
        self.assertEqual(query_columns(improved, catalog), query_columns(tree, catalog))
        self.assertEqual(run_query(improved, catalog), run_query(tree, catalog))
        for query in queries_in(improved):
            self.assertTrue(query[0] != "where" or is_early(query, catalog), query)
        self.assertEqual(catalog, before)
        return improved

    def assert_becomes(self, text, wanted):
        """The improved query is one of those that these texts write; there may be other ones that would do."""
        self.assertEqual(self.assert_improved(parse_query(text), CATALOG), parse_query(wanted))

    def assert_stays(self, text):
        self.assert_becomes(text, text)

    def test_nothing_to_improve(self):
        for text in (
            "pets", "pets | where age = 1", "pets | limit 3 | where age = 1", "pets | order age | limit 2 | where kind = 'cat'",
            "pets | keep age + 1 as x | where x > 2", "pets | keep age + 1 as x, kind | where x > 2 or kind = 'cat'",
            "pets | keep 1 as x | where x = 1", "pets | join (food) on 1 = 1 | where age < price",
            "pets | group kind into count as n | where n > 1", "pets | group kind into count as n | where n > 1 and kind = 'cat'",
            "pets | group into sum age as age | where age > 3", "pets | group age into least kind as kind | where kind = 'cat'",
        ):
            self.assert_stays(text)

    def test_behind_a_where(self):
        self.assert_becomes("pets | where age = 1 | where kind = 'dog'", "pets | where age = 1 and kind = 'dog'")
        self.assert_becomes(
            "pets | where age = 1 or age = 3 | where not kind = 'dog' | where name = 'tom'",
            "pets | where (age = 1 or age = 3) and not kind = 'dog' and name = 'tom'",
        )

    def test_behind_an_order_and_a_distinct(self):
        self.assert_becomes("pets | order age down, name | where kind = 'cat'", "pets | where kind = 'cat' | order age down, name")
        self.assert_becomes("pets | distinct | where kind = 'cat'", "pets | where kind = 'cat' | distinct")
        self.assert_becomes("pets | order age | distinct | where 1 = 1", "pets | where 1 = 1 | order age | distinct")

    def test_behind_a_union(self):
        self.assert_becomes(
            "pets | union (pets at 'old') | where age = 1", "pets | where age = 1 | union (pets at 'old' | where age = 1)",
        )
        self.assert_becomes(
            "pets | union (none | union (pets)) | where age = 1",
            "pets | where age = 1 | union (none | where age = 1 | union (pets | where age = 1))",
        )

    def test_behind_a_keep(self):
        self.assert_becomes("pets | keep age | where age = 1", "pets | where age = 1 | keep age")
        self.assert_becomes("pets | keep age as a, name as b | where a = 1", "pets | where age = 1 | keep age as a, name as b")
        # Names that are exchanged, and a column that two items have.
        self.assert_becomes(
            "pets | keep name as kind, kind as name | where name = 'cat' and not kind = 'tom'",
            "pets | where kind = 'cat' and not name = 'tom' | keep name as kind, kind as name",
        )
        self.assert_becomes(
            "pets | keep age as a, age as b | where a = 1 or b = 3", "pets | where age = 1 or age = 3 | keep age as a, age as b",
        )
        self.assert_becomes("pets | keep age + 1 as x, kind | where kind = 'cat'", "pets | where kind = 'cat' | keep age + 1 as x, kind")
        self.assert_becomes("pets | keep age * 2 as x | where 1 = 2", "pets | where 1 = 2 | keep age * 2 as x")
        self.assert_becomes("pets | keep -age as age, age as b | where b = 1", "pets | where age = 1 | keep -age as age, age as b")
        self.assert_stays("pets | keep -age as age, age as b | where age = -1")

    def test_behind_a_join(self):
        self.assert_becomes("pets | join (food) on 1 = 1 | where age = 1", "pets | where age = 1 | join (food) on 1 = 1")
        self.assert_becomes("pets | join (food) on age < price | where price = 5", "pets | join (food | where price = 5) on age < price")
        self.assert_becomes(
            "pets | join (food) on age < price | where price = 5 | where age = 1 | where food = 'fish'",
            "pets | where age = 1 | join (food | where price = 5 and food = 'fish') on age < price",
        )
        for condition in ("1 = 1", "1 = 2"):
            self.assert_improved(parse_query("pets | join (food) on age < price | where " + condition), CATALOG)

    def test_behind_a_group(self):
        self.assert_becomes("pets | group kind into count as n | where kind = 'cat'", "pets | where kind = 'cat' | group kind into count as n")
        self.assert_becomes(
            "pets | group kind, age into least name as l | where age is null or kind is null",
            "pets | where age is null or kind is null | group kind, age into least name as l",
        )
        # The total has the name of another column.
        self.assert_stays("pets | group kind into sum age as age | where age = 1")
        for condition in ("1 = 1", "1 = 2", "not 1 = 1"):
            self.assert_becomes("pets | group into count as n | where " + condition, "pets | where " + condition + " | group into count as n")
            self.assert_becomes("none | group into count as n | where " + condition, "none | where " + condition + " | group into count as n")

    def test_over_many_stages(self):
        self.assert_becomes(
            "pets | keep kind as k, age | distinct | order age | union (pets | keep kind, age | keep kind as k, age) | where k = 'cat'",
            "pets | where kind = 'cat' | keep kind as k, age | distinct | order age"
            " | union (pets | where kind = 'cat' | keep kind, age | keep kind as k, age)",
        )
        self.assert_becomes("pets | order age | limit 3 | order name | where age = 1", "pets | order age | limit 3 | where age = 1 | order name")
        self.assert_becomes(
            "pets | where age = 1 | keep kind as k | where k = 'cat'", "pets | where age = 1 and kind = 'cat' | keep kind as k",
        )
        self.assert_becomes(
            "pets | keep age + 1 as x, kind | where x = 2 | where kind = 'dog'", "pets | keep age + 1 as x, kind | where x = 2 and kind = 'dog'",
        )
        self.assert_becomes("pets" + " | distinct" * 70 + " | where age = 1", "pets | where age = 1" + " | distinct" * 70)

    def test_in_inner_queries(self):
        self.assert_becomes(
            "pets | union (pets | distinct | where age = 1)", "pets | union (pets | where age = 1 | distinct)",
        )
        self.assert_becomes(
            "food | join (pets | order age | where age = 1) on 1 = 1", "food | join (pets | where age = 1 | order age) on 1 = 1",
        )
        self.assert_becomes(
            "food | join (pets | keep age | join (food | keep food as f | where f = 'fish') on 1 = 1) on 1 = 1 | where f <> 'meat' | limit 3",
            "food | join (pets | keep age | join (food | where food = 'fish' and food <> 'meat' | keep food as f) on 1 = 1) on 1 = 1 | limit 3",
        )

    def test_random_queries(self):
        changed = 0
        for seed in range(1500):
            rng = random.Random(seed)
            catalog = random_catalog(rng)
            tree, _ = valid_query(rng, catalog, rng.choice([3, 5, 8]))
            improved = self.assert_improved(tree, catalog)
            self.assertEqual(self.assert_improved(improved, catalog), improved)
            changed += improved != tree
        self.assertGreater(changed, 200)


if __name__ == "__main__":
    unittest.main()
