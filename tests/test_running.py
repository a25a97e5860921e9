"""Points 41, 43 and 44: the values of expressions, and the rows of queries."""

import copy
import functools
import itertools
import operator
import random
import unittest

from tests.queries import random_catalog, valid_expression, valid_query
from versiontables.parsing import parse_expression, parse_query
from versiontables.running import evaluate, run_query

BIG = 10 ** 60
COLUMNS = (("a", "int"), ("b", "int"), ("s", "text"), ("t", "text"))
COMPARED = {
    "equal": operator.eq, "unequal": operator.ne, "less": operator.lt, "atmost": operator.le, "more": operator.gt,
    "atleast": operator.ge,
}
COMPUTED = {"add": operator.add, "sub": operator.sub, "mul": operator.mul, "neg": operator.neg}


def told_value(tree, row):
    """The value of an expression for a row, a dict, as point 43 tells."""
    word = tree[0]
    if word in ("int", "text"):
        return tree[1]
    if word == "column":
        return row[tree[1]]
    values = [told_value(part, row) for part in tree[1:]]
    if word == "null":
        return values[0] is None
    if word in ("and", "or"):
        # In the order False, None, True the one is the lesser and the other the greater of both.
        order = [False, None, True]
        places = [[place for place in range(3) if order[place] is value][0] for value in values]
        return order[min(places) if word == "and" else max(places)]
    if any(value is None for value in values):
        return None
    if word == "not":
        return not values[0]
    if word in COMPARED:
        return COMPARED[word](*values)
    found = COMPUTED[word](*values)
    return found if -BIG < found < BIG else None


def told_order(keys, one, two):
    """Whether a row stands in front of another one (-1), behind it (1), or neither (0)."""
    for name, down in keys:
        if one[name] == two[name]:
            continue
        less = one[name] is None or (two[name] is not None and one[name] < two[name])
        return -1 if less != (down == 1) else 1
    return 0


def told_rows(tree, catalog):
    """The rows of a query as dicts, in the order of the columns, as point 44 tells."""
    word = tree[0]
    if word == "source":
        columns, rows = catalog[tree[1], tree[2]]
        return [dict(zip([name for name, _ in columns], row)) for row in rows]
    rows = told_rows(tree[1], catalog)
    if word == "where":
        return [row for row in rows if told_value(tree[2], row) is True]
    if word == "keep":
        return [{name: told_value(expression, row) for expression, name in tree[2]} for row in rows]
    if word == "join":
        both = [{**row, **other} for row, other in itertools.product(rows, told_rows(tree[2], catalog))]
        return [row for row in both if told_value(tree[3], row) is True]
    if word == "union":
        return rows + told_rows(tree[2], catalog)
    if word == "group":
        found = []
        for values in [tuple(row[name] for name in tree[2]) for row in rows]:
            group = [row for row in rows if tuple(row[name] for name in tree[2]) == values]
            found.append({**dict(zip(tree[2], values)), **{name: told_total(group, total) for *total, name in tree[3]}})
        return [row for place, row in enumerate(found) if row not in found[:place]]
    if word == "order":
        return sorted(rows, key=functools.cmp_to_key(lambda one, two: told_order(tree[2], one, two)))
    if word == "limit":
        return [row for place, row in enumerate(rows) if place < tree[2]]
    return [row for place, row in enumerate(rows) if row not in rows[:place]]


def told_total(rows, total):
    word, column = total
    if word == "count":
        return len(rows)
    values = sorted(row[column] for row in rows if row[column] is not None)
    if not values or (word == "sum" and not -BIG < sum(values) < BIG):
        return None
    return {"sum": sum, "least": min, "greatest": max}[word](values)


class EvaluateTest(unittest.TestCase):
    def assert_value(self, text, row, value):
        found = evaluate(parse_expression(text), COLUMNS, row)
        self.assertIs(type(found), type(value))
        self.assertEqual(found, value)

    def test_primaries(self):
        row = (5, None, "x", "")
        for text, value in (("12", 12), ("'ab'", "ab"), ("''", ""), ("a", 5), ("b", None), ("s", "x"), ("t", "")):
            self.assert_value(text, row, value)

    def test_arithmetic(self):
        row = (7, -3, None, None)
        for text, value in (("a + b", 4), ("a - b", 10), ("b - a", -10), ("a * b", -21), ("-a", -7), ("--b", -3), ("-a - -b", -10),
                            ("a * 0", 0), ("-0", 0), ("a - 7", 0), ("2 + 3 * 4 - 1", 13), ("(2 + 3) * 4", 20)):
            self.assert_value(text, row, value)

    def test_none_at_each_operand(self):
        for sign in ("+", "-", "*", "=", "<>", "<", "<=", ">", ">="):
            for row in ((None, 5, None, "x"), (5, None, "x", None), (None, None, None, None)):
                self.assert_value("a " + sign + " b", row, None)
                if sign not in "+-*":
                    self.assert_value("s " + sign + " t", row, None)
        for text in ("-a", "not a = 1", "not a <> 1", "-(a + 1) * 2", "a * 0", "0 * a", "a - a", "not (a = a)"):
            self.assert_value(text, (None, 1, "", ""), None)
        self.assert_value("a = a", (None, 1, "", ""), None)

    def test_is_null(self):
        for row, value in (((None, 1, "", ""), True), ((0, 1, "", ""), False)):
            self.assert_value("a is null", row, value)
            self.assert_value("a is not null", row, not value)
            self.assert_value("a + b is null", row, value)
            self.assert_value("not a is null", row, not value)
        for row, value in (((0, 1, None, ""), True), ((0, 1, "", ""), False), ((0, 1, "x", ""), False)):
            self.assert_value("s is null", row, value)
            self.assert_value("s is not null", row, not value)
        self.assert_value("0 is null", (0, 0, "", ""), False)

    def test_the_bound_of_integers(self):
        half = BIG // 2
        for a, b in ((BIG - 1, 1), (BIG - 1, 0), (half, half), (half, half - 1), (-half, half), (BIG - 1, BIG - 1), (1 - BIG, -1), (10, BIG // 10),
                     (10, BIG // 10 - 1), (-10, BIG // 10), (10 ** 30, 10 ** 30), (10 ** 30, 10 ** 30 - 1), (1 - BIG, 1 - BIG), (0, 1 - BIG)):
            for one, two in ((a, b), (b, a), (-a, b), (a, -b), (-a, -b)):
                for sign, found in (("+", one + two), ("-", one - two), ("*", one * two)):
                    self.assert_value("a " + sign + " b", (one, two, "", ""), found if abs(found) < BIG else None)
                self.assert_value("-a", (one, two, "", ""), -one)
        self.assert_value("a + 1", (BIG - 1, 0, "", ""), None)
        self.assert_value("a + 1", (BIG - 2, 0, "", ""), BIG - 1)
        self.assert_value("a - 1", (1 - BIG, 0, "", ""), None)
        self.assert_value("a * 10", (BIG // 10, 0, "", ""), None)
        # What is too great on the way is None, although the result would not be.
        self.assert_value("a + 1 - 1", (BIG - 1, 0, "", ""), None)
        self.assert_value("a + (1 - 1)", (BIG - 1, 0, "", ""), BIG - 1)

    def test_comparing_integers(self):
        for one, two in itertools.product([-10, -9, 0, 9, 10, BIG - 1, 1 - BIG], repeat=2):
            for sign, compare in zip(("=", "<>", "<", "<=", ">", ">="), COMPARED.values()):
                self.assert_value("a " + sign + " b", (one, two, "", ""), compare(one, two))

    def test_comparing_texts(self):
        texts = ["", " ", "a", "ab", "aa", "b", "B", "~", "a ", "1", "10", "9", "a" * 60]
        for one, two in itertools.product(texts, repeat=2):
            for sign, compare in zip(("=", "<>", "<", "<=", ">", ">="), COMPARED.values()):
                self.assert_value("s " + sign + " t", (0, 0, one, two), compare(one, two))
        self.assert_value("s < t", (0, 0, "a", "ab"), True)
        self.assert_value("s < t", (0, 0, "B", "a"), True)
        self.assert_value("s < t", (0, 0, "10", "9"), True)

    def test_logic(self):
        """`a = 1` is True, False or None, and `b = 1` likewise."""
        truths = {1: True, 0: False, None: None}
        both = {(True, True): True, (True, None): None, (None, True): None, (None, None): None}
        either = {(False, False): False, (False, None): None, (None, False): None, (None, None): None}
        for one, two in itertools.product(truths, repeat=2):
            row, pair = (one, two, "", ""), (truths[one], truths[two])
            self.assert_value("a = 1 and b = 1", row, both.get(pair, False))
            self.assert_value("a = 1 or b = 1", row, either.get(pair, True))
            self.assert_value("not (a = 1 and b = 1)", row, {True: False, False: True, None: None}[both.get(pair, False)])
        for one, value in ((1, False), (0, True), (None, None)):
            self.assert_value("not a = 1", (one, 0, "", ""), value)

    def test_random_expressions(self):
        for seed in range(1000):
            rng = random.Random(seed)
            kind = rng.choice(["int", "text", "truth"])
            tree = valid_expression(rng, COLUMNS, kind, rng.choice([1, 3, 6, 12]))
            for _ in range(4):
                row = tuple(rng.choice([None, 0, 1, 2, -1, BIG - 1] if base == "int" else [None, "", "a", "ab", "b"]) for _, base in COLUMNS)
                found = evaluate(tree, COLUMNS, row)
                told = told_value(tree, dict(zip("abst", row)))
                self.assertEqual((type(found), found), (type(told), told))

    def test_long_rows(self):
        self.assert_value("a" + " + a" * 74, (2, 0, "", ""), 150)
        self.assert_value("a = 2" + " and a = 2" * 29, (2, 0, "", ""), True)


PETS = [(3, "cat", "tom"), (1, "dog", "rex"), (None, "cat", None), (1, "cat", "tom"), (1, "dog", "rex"), (None, None, "rex")]
CATALOG = {
    ("pets", None): ((("age", "int"), ("kind", "text"), ("name", "text")), PETS),
    ("pets", "old"): ((("age", "int"), ("kind", "text"), ("name", "text")), PETS[:2]),
    ("food", None): ((("food", "text"), ("price", "int")), [("fish", 5), ("meat", None), ("fish", 5)]),
    ("none", None): ((("age", "int"), ("kind", "text"), ("name", "text")), []),
    ("big", None): ((("g", "text"), ("n", "int")), [("a", BIG - 1), ("b", BIG - 1), ("a", 1), ("b", -1), ("c", 1 - BIG), ("c", -1), ("d", None)]),
}


class RunTest(unittest.TestCase):
    def assert_rows(self, text, rows):
        before = copy.deepcopy(CATALOG)
        tree = parse_query(text)
        found = run_query(tree, CATALOG)
        self.assertIs(type(found), list)
        self.assertEqual(found, rows)
        self.assertEqual([tuple(row.values()) for row in told_rows(tree, CATALOG)], rows)
        found.clear()
        self.assertEqual(CATALOG, before)
        self.assertEqual(run_query(tree, CATALOG), rows)

    def test_sources(self):
        self.assert_rows("pets", PETS)
        self.assert_rows("pets at 'old'", PETS[:2])
        self.assert_rows("none", [])

    def test_where(self):
        self.assert_rows("pets | where age = 1", [PETS[1], PETS[3], PETS[4]])
        self.assert_rows("pets | where age <> 1", [PETS[0]])
        self.assert_rows("pets | where not age = 1", [PETS[0]])
        self.assert_rows("pets | where age is null", [PETS[2], PETS[5]])
        self.assert_rows("pets | where age = 1 or kind = 'cat'", PETS[:5])
        self.assert_rows("pets | where 1 = 1", PETS)
        self.assert_rows("pets | where 1 = 2", [])
        self.assert_rows("none | where 1 = 1", [])

    def test_keep(self):
        self.assert_rows("pets | keep name", [("tom",), ("rex",), (None,), ("tom",), ("rex",), ("rex",)])
        self.assert_rows("pets | limit 3 | keep name as age, age + 1 as name, 'x' as x", [("tom", 4, "x"), ("rex", 2, "x"), (None, None, "x")])
        self.assert_rows("pets | keep 0 as z", [(0,)] * 6)
        self.assert_rows("none | keep age as a", [])

    def test_join(self):
        food = [("fish", 5), ("meat", None), ("fish", 5)]
        self.assert_rows("pets | join (food) on 1 = 1", [row + other for row in PETS for other in food])
        self.assert_rows("food | join (pets) on 1 = 1", [row + other for row in food for other in PETS])
        self.assert_rows("pets | join (food) on age + 2 = price", [row + other for row in PETS if row[0] == 3 for other in food[::2]])
        self.assert_rows("food | join (pets | where age is null) on price is not null", [
            row + other for row in food[::2] for other in (PETS[2], PETS[5])
        ])
        for text in ("pets | join (food) on 1 = 2", "pets | join (food) on price = price + 1", "none | join (food) on 1 = 1",
                     "food | join (none) on 1 = 1"):
            self.assert_rows(text, [])

    def test_union(self):
        self.assert_rows("pets | union (pets at 'old')", PETS + PETS[:2])
        self.assert_rows("pets at 'old' | union (pets)", PETS[:2] + PETS)
        self.assert_rows("none | union (none) | union (pets)", PETS)
        self.assert_rows("pets | limit 1 | union (pets | where age is null) | union (none)", [PETS[0], PETS[2], PETS[5]])

    def test_group(self):
        self.assert_rows("pets | group kind into count as n", [("cat", 3), ("dog", 2), (None, 1)])
        self.assert_rows("pets | group age into count as n", [(3, 1), (1, 3), (None, 2)])
        self.assert_rows("pets | group name, kind into sum age as s", [
            ("tom", "cat", 4), ("rex", "dog", 2), (None, "cat", None), ("rex", None, None),
        ])
        self.assert_rows("pets | group kind into least age as a, greatest age as b, least name as c, greatest name as d, count as e", [
            ("cat", 1, 3, "tom", "tom", 3), ("dog", 1, 1, "rex", "rex", 2), (None, None, None, "rex", "rex", 1),
        ])

    def test_group_without_names(self):
        self.assert_rows("pets | group into count as n", [(6,)])
        self.assert_rows("pets | group into sum age as s, least name as l, greatest kind as g", [(6, "rex", "dog")])
        self.assert_rows("pets | where age is null | group into sum age as s, least age as l, greatest age as g, count as n", [
            (None, None, None, 2),
        ])

    def test_group_over_no_rows(self):
        self.assert_rows("none | group into count as n", [])
        self.assert_rows("none | group kind into count as n, sum age as s", [])
        self.assert_rows("pets | where 1 = 2 | group into count as n", [])
        self.assert_rows("none | group into count as n | group into count as m", [])

    def test_sums_at_the_bound(self):
        self.assert_rows("big | group g into sum n as s", [("a", None), ("b", BIG - 2), ("c", None), ("d", None)])
        self.assert_rows("big | where g = 'a' or g = 'b' | group into sum n as s", [(None,)])
        # Sums on the way do not count.
        self.assert_rows("big | where g = 'a' or g = 'c' or g = 'd' | group into sum n as s", [(0,)])
        self.assert_rows("big | where n < 0 | group into sum n as s, least n as l", [(None, 1 - BIG)])

    def test_order(self):
        self.assert_rows("pets | order age", [PETS[place] for place in (2, 5, 1, 3, 4, 0)])
        self.assert_rows("pets | order age down", [PETS[place] for place in (0, 1, 3, 4, 2, 5)])
        self.assert_rows("pets | order name, age down", [PETS[place] for place in (2, 1, 4, 5, 0, 3)])
        self.assert_rows("pets | order name down, age", [PETS[place] for place in (3, 0, 5, 1, 4, 2)])
        self.assert_rows("pets | order kind down, age down, name", [PETS[place] for place in (1, 4, 0, 3, 2, 5)])
        self.assert_rows("pets | order age, age down", [PETS[place] for place in (2, 5, 1, 3, 4, 0)])
        self.assert_rows("pets | order age down, kind, age", [PETS[place] for place in (0, 3, 1, 4, 5, 2)])
        self.assert_rows("none | order age", [])
        texts = [("",), ("B",), ("a",), ("a ",), ("ab",), ("b",)]
        catalog = {("t", None): ((("s", "text"),), texts[::-1] + [(None,)])}
        self.assertEqual(run_query(parse_query("t | order s"), catalog), [(None,)] + texts)
        self.assertEqual(run_query(parse_query("t | order s down"), catalog), texts[::-1] + [(None,)])

    def test_equal_rows_keep_their_order(self):
        rows = [(number // 7 % 3, number) for number in range(60)]
        catalog = {("t", None): ((("k", "int"), ("n", "int")), rows)}
        for text, sign in (("t | order k", 1), ("t | order k down", -1)):
            wanted = sorted(rows, key=lambda row: (sign * row[0], row[1]))
            self.assertEqual(run_query(parse_query(text), catalog), wanted)

    def test_limit(self):
        for count in range(8):
            self.assert_rows("pets | limit " + str(count), PETS[:count])
        self.assert_rows("pets | limit " + "9" * 18, PETS)
        self.assert_rows("pets | limit 0 | group into count as n", [])

    def test_distinct(self):
        self.assert_rows("pets | distinct", PETS[:4] + PETS[5:])
        self.assert_rows("pets | keep age | distinct", [(3,), (1,), (None,)])
        self.assert_rows("pets | keep name, kind | distinct", [("tom", "cat"), ("rex", "dog"), (None, "cat"), ("rex", None)])
        self.assert_rows("pets | union (pets) | distinct | distinct", PETS[:4] + PETS[5:])
        self.assert_rows("none | distinct", [])

    def test_stages_behind_others(self):
        self.assert_rows(
            "pets | where kind is not null | group kind into count as n, sum age as a | order n | keep kind, n * 2 as m | limit 1",
            [("dog", 4)],
        )
        self.assert_rows("pets | limit 2 | where age = 1", [PETS[1]])
        self.assert_rows("pets | where age = 1 | limit 2", [PETS[1], PETS[3]])
        self.assert_rows("pets | order age | limit 1", [PETS[2]])
        self.assert_rows("pets" + " | distinct" * 74, PETS[:4] + PETS[5:])

    def test_lists_belong_to_the_caller(self):
        for text in ("pets", "pets | limit 99", "pets | where 1 = 1", "pets | union (none)", "none | union (pets)", "pets | order age",
                     "none", "none | distinct"):
            before = copy.deepcopy(CATALOG)
            tree = parse_query(text)
            first = run_query(tree, CATALOG)
            first.append("more")
            first.reverse()
            self.assertEqual(CATALOG, before)
            self.assertNotIn("more", run_query(tree, CATALOG))

    def test_random_queries(self):
        some = 0
        for seed in range(800):
            rng = random.Random(seed)
            catalog = random_catalog(rng)
            tree, columns = valid_query(rng, catalog, rng.choice([1, 2, 4, 7]))
            before = copy.deepcopy(catalog)
            rows = run_query(tree, catalog)
            self.assertEqual(rows, [tuple(row.values()) for row in told_rows(tree, catalog)])
            self.assertEqual(catalog, before)
            self.assertTrue(all(len(row) == len(columns) for row in rows))
            some += len(rows) > 0
        self.assertGreater(some, 400)


if __name__ == "__main__":
    unittest.main()
