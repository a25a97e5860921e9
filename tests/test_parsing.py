"""Points 37 to 40: the trees of queries and expressions, and the faults in their texts."""

import random
import unittest

from tests.queries import WORDS, any_expression, any_query, told_fault, write, write_query
from versiontables.errors import SyntaxFault
from versiontables.parsing import parse_expression, parse_query


def column(name):
    return "column", name


def number(value):
    return "int", value


A, B, C, D = map(column, "abcd")
PETS = ("source", "pets", None)
PARTS = (
    "a b name 0 17 'x' '' ( ) , | + - * = <> < <= > >= ! 'y 1234567890123456789 abcdefghijklm".split() + WORDS + ["(", ")", "not", "-"]
)


class ParseTest(unittest.TestCase):
    def assert_expression(self, text, tree):
        self.assertIsNone(told_fault(text, "expr"))
        self.assertEqual(parse_expression(text), tree)

    def assert_query(self, text, tree):
        self.assertIsNone(told_fault(text, "query"))
        self.assertEqual(parse_query(text), tree)

    def assert_stage(self, text, *parts):
        self.assert_query("pets | " + text, (parts[0], PETS) + parts[1:])

    def assert_fault(self, parse, text, fault):
        with self.subTest(text), self.assertRaises(SyntaxFault) as caught:
            parse(text)
        self.assertEqual(caught.exception.column, fault)

    def assert_expression_fault(self, text, fault):
        self.assertEqual(told_fault(text, "expr"), fault, text)
        self.assert_fault(parse_expression, text, fault)

    def assert_query_fault(self, text, fault):
        self.assertEqual(told_fault(text, "query"), fault, text)
        self.assert_fault(parse_query, text, fault)


class ExpressionTest(ParseTest):
    def test_primaries(self):
        self.assert_expression("12", number(12))
        self.assert_expression("007", number(7))
        self.assert_expression("9" * 18, number(10 ** 18 - 1))
        self.assert_expression("'a b'", ("text", "a b"))
        self.assert_expression("''", ("text", ""))
        self.assert_expression("'null'", ("text", "null"))
        self.assert_expression("age", column("age"))
        self.assert_expression("(age)", column("age"))
        self.assert_expression("(((12)))", number(12))

    def test_each_operator(self):
        signs = {"=": "equal", "<>": "unequal", "<": "less", "<=": "atmost", ">": "more", ">=": "atleast"}
        signs.update({"+": "add", "-": "sub", "*": "mul", "and": "and", "or": "or"})
        for sign, word in signs.items():
            self.assert_expression("a " + sign + " b", (word, A, B))
            self.assert_expression("'x' " + sign + "(7)", (word, ("text", "x"), number(7)))
        self.assert_expression("- a", ("neg", A))
        self.assert_expression("-a", ("neg", A))
        self.assert_expression("not a", ("not", A))
        self.assert_expression("a is null", ("null", A))
        self.assert_expression("a is not null", ("not", ("null", A)))
        self.assert_expression("not a is null", ("not", ("null", A)))
        self.assert_expression("not a is not null", ("not", ("not", ("null", A))))

    def test_operators_of_one_group(self):
        self.assert_expression("a + b - c + d", ("add", ("sub", ("add", A, B), C), D))
        self.assert_expression("a - b - c", ("sub", ("sub", A, B), C))
        self.assert_expression("a * b * c", ("mul", ("mul", A, B), C))
        self.assert_expression("a and b and c", ("and", ("and", A, B), C))
        self.assert_expression("a or b or c", ("or", ("or", A, B), C))
        self.assert_expression("a - (b - c)", ("sub", A, ("sub", B, C)))
        self.assert_expression("a or (b or c)", ("or", A, ("or", B, C)))

    def test_operators_of_different_groups(self):
        self.assert_expression("a + b * c", ("add", A, ("mul", B, C)))
        self.assert_expression("a * b + c", ("add", ("mul", A, B), C))
        self.assert_expression("a + b = c - d", ("equal", ("add", A, B), ("sub", C, D)))
        self.assert_expression("a or b and c", ("or", A, ("and", B, C)))
        self.assert_expression("a and b or c", ("or", ("and", A, B), C))
        self.assert_expression("not a and b", ("and", ("not", A), B))
        self.assert_expression("not a = b", ("not", ("equal", A, B)))
        self.assert_expression("not not a or not b", ("or", ("not", ("not", A)), ("not", B)))
        self.assert_expression("-a * b", ("mul", ("neg", A), B))
        self.assert_expression("a * - - b", ("mul", A, ("neg", ("neg", B))))
        self.assert_expression("a - -b", ("sub", A, ("neg", B)))
        self.assert_expression("-a - b", ("sub", ("neg", A), B))
        self.assert_expression("a + b is null and c", ("and", ("null", ("add", A, B)), C))
        self.assert_expression("-a is not null", ("not", ("null", ("neg", A))))

    def test_parentheses_that_change_the_tree(self):
        self.assert_expression("(a + b) * c", ("mul", ("add", A, B), C))
        self.assert_expression("-(a * b)", ("neg", ("mul", A, B)))
        self.assert_expression("not (a and b)", ("not", ("and", A, B)))
        self.assert_expression("a and (b or c)", ("and", A, ("or", B, C)))
        self.assert_expression("(a = b) = c", ("equal", ("equal", A, B), C))
        self.assert_expression("a = (b < c)", ("equal", A, ("less", B, C)))
        self.assert_expression("(a = b) is null", ("null", ("equal", A, B)))
        self.assert_expression("(not a) = b", ("equal", ("not", A), B))
        self.assert_expression("(a is null) is not null", ("not", ("null", ("null", A))))
        self.assert_expression("-(not a)", ("neg", ("not", A)))

    def test_parentheses_that_change_nothing(self):
        for text in ("(a + b) + c", "((a) + (b)) + (c)", "(a + b + c)", "((((a + b + c))))"):
            self.assert_expression(text, ("add", ("add", A, B), C))
        for text in ("a * b + c", "(a * b) + c", "((a * b) + (c))"):
            self.assert_expression(text, ("add", ("mul", A, B), C))

    def test_spaces(self):
        for text in ("a+b*c>=-d", "  a + b * c >= - d  ", " a+  b *c>= -d"):
            self.assert_expression(text, ("atleast", ("add", A, ("mul", B, C)), ("neg", D)))
        self.assert_expression("a<-b", ("less", A, ("neg", B)))
        self.assert_expression("1and 2", ("and", number(1), number(2)))
        self.assert_expression("'a'or'b'", ("or", ("text", "a"), ("text", "b")))

    def test_long_rows_of_operators(self):
        for sign, word in (("+", "add"), ("-", "sub"), ("*", "mul"), ("and", "and"), ("or", "or")):
            tree = A
            for _ in range(74):
                tree = (word, tree, B)
            self.assert_expression("a" + (" " + sign + " b") * 74, tree)

    def test_levels(self):
        for count in range(13):
            tree, negated, turned, mixed = A, A, A, A
            for place in range(count):
                negated, turned = ("not", negated), ("neg", turned)
            for place in range(count // 2):
                mixed = ("neg", mixed)
            self.assert_expression("(" * count + "a" + ")" * count, tree)
            self.assert_expression("not " * count + "a", negated)
            self.assert_expression("-" * count + "a", turned)
            self.assert_expression("(-" * (count // 2) + "a" + ")" * (count // 2), mixed)
        self.assert_expression_fault("(" * 13 + "a" + ")" * 13, 13)
        self.assert_expression_fault("not " * 13 + "a", 49)
        self.assert_expression_fault("-" * 13 + "a", 13)
        self.assert_expression_fault("(-" * 6 + "(a" + ")" * 7, 13)
        self.assert_expression_fault("not -(" * 4 + "not a", 25)
        self.assert_expression_fault("not -(" * 4 + "-a", 25)
        self.assert_expression_fault("not -(" * 4 + "(a", 25)
        self.assert_expression_fault("not -(" * 4 + "", 25)
        self.assert_expression_fault("(" * 12 + "a + -b", 17)
        self.assert_expression_fault("(" * 12 + "a and not b", 19)
        self.assert_expression_fault("(" * 12 + "a = b * (c", 21)
        self.assert_expression_fault("(" * 12 + "a or b", 19)

    def test_levels_that_are_closed(self):
        self.assert_expression("(" * 12 + "a - b is not null" + ")" * 12, ("not", ("null", ("sub", A, B))))
        deep = "(" * 12 + "a" + ")" * 12
        self.assert_expression(deep + " + " + deep, ("add", A, A))
        self.assert_expression("-" * 12 + "a * " + deep, ("mul", parse_expression("-" * 12 + "a"), A))
        self.assert_expression("(" + "-" * 11 + "a) + (" + "-" * 11 + "a)", ("add",) + (parse_expression("-" * 11 + "a"),) * 2)
        self.assert_expression("not " * 12 + "a and " + deep, ("and", parse_expression("not " * 12 + "a"), A))
        self.assert_expression_fault("not " * 12 + "a = -b", 53)
        self.assert_expression_fault("not " * 12 + "a = b and " + "not " * 12 + "(a)", 107)
        self.assert_expression_fault("(" * 11 + "-a * (" + "-b", 18)

    def test_names(self):
        for word in WORDS:
            self.assert_expression_fault(word, 1 if word != "not" else 4)
            self.assert_expression_fault("a = " + word, 5)
            self.assert_expression("'" + word + "'", ("text", word))
            self.assert_expression(word[0] + word, column(word[0] + word))

    def test_faults(self):
        for text, fault in (
            ("", 1), ("   ", 4), ("a b", 3), ("a 1", 3), ("1 'x'", 3), ("a = b = c", 7), ("a < b is null", 7), ("a is", 5),
            ("a is b", 6), ("a is null null", 11), ("a is null is null", 11), ("a is not", 9), ("a is not not null", 10),
            ("a is null = b", 11), ("a = not b", 5), ("a + not b", 5), ("- not a", 3), ("(", 2), ("(a", 3), ("(a,", 3),
            ("()", 2), ("a)", 2), ("(a))", 4), ("a +", 4), ("a + ", 5), ("+ a", 1), ("a + + b", 5), ("a * * b", 5), ("* a", 1),
            ("not", 4), ("not and", 5), ("and a", 1), ("a and", 6), ("a or or b", 6), ("a , b", 3), ("a | distinct", 3),
            ("a as b", 3), ("a - ", 5), ("a = ", 5), ("a => b", 4), ("a = < b", 5), ("a <> = b", 6), ("null", 1), ("a = null", 5),
        ):
            self.assert_expression_fault(text, fault)

    def test_a_token_fault_comes_first(self):
        for text, fault in (
            ("a b !", 5), (") 'x", 5), ("= = 1234567890123456789", 23), ("a a abcdefghijklm", 17), ("() A", 4), ("a + '", 6),
            ("and '" + "x" * 61 + "'", 66), ("(" * 13 + " ?", 15),
        ):
            self.assert_expression_fault(text, fault)


class QueryTest(ParseTest):
    def test_sources(self):
        self.assert_query("pets", PETS)
        self.assert_query("  pets  ", PETS)
        self.assert_query("pets at 'main~^'", ("source", "pets", "main~^"))
        self.assert_query("pets at''", ("source", "pets", ""))
        self.assert_query("abcdefghijkl at ' '", ("source", "abcdefghijkl", " "))

    def test_where(self):
        self.assert_stage("where a", "where", A)
        self.assert_stage("where a > 1 or a is null", "where", ("or", ("more", A, number(1)), ("null", A)))

    def test_keep(self):
        self.assert_stage("keep a", "keep", ((A, "a"),))
        self.assert_stage("keep a as a", "keep", ((A, "a"),))
        self.assert_stage("keep (a) as a", "keep", ((A, "a"),))
        self.assert_stage("keep a as b", "keep", ((A, "b"),))
        self.assert_stage("keep a, b as a, a", "keep", ((A, "a"), (B, "a"), (A, "a")))
        self.assert_stage("keep a + 1 as c, 'x' as d, b", "keep", ((("add", A, number(1)), "c"), (("text", "x"), "d"), (B, "b")))
        self.assert_stage("keep not a as c", "keep", ((("not", A), "c"),))
        self.assert_stage("keep a is null as c", "keep", ((("null", A), "c"),))
        self.assert_query("pets|keep a|keep b", ("keep", ("keep", PETS, ((A, "a"),)), ((B, "b"),)))

    def test_join(self):
        self.assert_stage("join (b) on a", "join", ("source", "b", None), A)
        self.assert_stage(
            "join (b at 'x' | where c | limit 1) on a = b and c",
            "join", ("limit", ("where", ("source", "b", "x"), C), 1), ("and", ("equal", A, B), C),
        )

    def test_union(self):
        self.assert_stage("union (b)", "union", ("source", "b", None))
        self.assert_stage("union(b|distinct)", "union", ("distinct", ("source", "b", None)))

    def test_group(self):
        self.assert_stage("group into count as n", "group", (), (("count", None, "n"),))
        self.assert_stage("group a into sum b as c", "group", ("a",), (("sum", "b", "c"),))
        self.assert_stage(
            "group a, b, a into least c as d, greatest c as e, count as f, sum a as d", "group", ("a", "b", "a"),
            (("least", "c", "d"), ("greatest", "c", "e"), ("count", None, "f"), ("sum", "a", "d")),
        )

    def test_order(self):
        self.assert_stage("order a", "order", (("a", 0),))
        self.assert_stage("order a down", "order", (("a", 1),))
        self.assert_stage("order a, b down, a down, c", "order", (("a", 0), ("b", 1), ("a", 1), ("c", 0)))

    def test_limit_and_distinct(self):
        self.assert_stage("limit 0", "limit", 0)
        self.assert_stage("limit 0012", "limit", 12)
        self.assert_stage("limit " + "9" * 18, "limit", 10 ** 18 - 1)
        self.assert_stage("distinct", "distinct")

    def test_stages_behind_others(self):
        tree = PETS
        for text, parts in (
            ("where a", (A,)), ("order a down", ((("a", 1),),)), ("distinct", ()), ("union (b)", (("source", "b", None),)),
            ("limit 3", (3,)), ("group into count as n", ((), (("count", None, "n"),))), ("keep a", (((A, "a"),),)),
        ):
            tree = (text.split()[0], tree) + parts
        text = "pets | where a | order a down | distinct | union (b) | limit 3 | group into count as n | keep a"
        self.assert_query(text, tree)
        self.assert_query(text.replace(" | ", "|"), tree)
        tree = PETS
        for _ in range(74):
            tree = ("distinct", tree)
        self.assert_query("pets" + "|distinct" * 74, tree)

    def test_inner_queries_in_inner_queries(self):
        tree = text = None
        for name in "abcdefghijklm":
            source = ("source", name, None)
            tree = source if tree is None else ("union", source, tree)
            text = name if text is None else name + "|union(" + text + ")"
        self.assert_query(text, tree)
        self.assert_query(
            "a | join (b | union (c | join (d) on b) | distinct) on c | distinct",
            ("distinct", ("join", ("source", "a", None), ("distinct", (
                "union", ("source", "b", None), ("join", ("source", "c", None), ("source", "d", None), B),
            )), C)),
        )

    def test_levels(self):
        deep = "a | union (" * 12
        self.assert_query_fault(deep + "a | union (a" + ")" * 13, 12 * 11 + 11)
        self.assert_query_fault(deep + "a | union", 12 * 11 + 10)
        self.assert_query_fault(deep + "a | join ", 12 * 11 + 10)
        self.assert_query_fault(deep + "a | join distinct", 12 * 11 + 10)
        self.assert_query_fault(deep + "a | join (b) on a", 12 * 11 + 10)
        self.assert_query_fault(deep + "a | union , (", 12 * 11 + 11)
        self.assert_query_fault(deep + "a | where (a)", 12 * 11 + 11)
        self.assert_query_fault(deep + "a | where not a", 12 * 11 + 11)
        self.assert_query_fault(deep + "a | keep a, -a as b", 12 * 11 + 13)
        self.assert_query_fault(deep + "a | where a is not null", 12 * 11 + 24)
        tree = parse_query(deep + "a | where a is not null" + ")" * 12)
        for _ in range(12):
            self.assertEqual(tree[:2], ("union", ("source", "a", None)))
            tree = tree[2]
        self.assertEqual(tree, ("where", ("source", "a", None), ("not", ("null", A))))
        # What stands behind `on` is a level less deep than what stands in the parentheses.
        for count in (11, 12):
            text = "a | join (b | where " + "(" * 11 + "a" + ")" * 11 + ") on " + "-" * count + "a"
            self.assert_query(text, ("join", ("source", "a", None), ("where", ("source", "b", None), A), parse_expression("-" * count + "a")))
        self.assert_query_fault("a | join (b | where " + "(" * 12 + "a" + ")" * 12 + ") on a", 32)
        self.assert_query_fault("a | join (b) on " + "-" * 13 + "a", 29)

    def test_names(self):
        for word in WORDS:
            self.assert_query_fault(word, 1)
            self.assert_query_fault("a | keep " + word, 10 if word != "not" else 13)
            self.assert_query_fault("a | keep a as " + word, 15)
            self.assert_query_fault("a | order " + word, 11)
            self.assert_query_fault("a | limit " + word, 11)
            self.assert_query_fault("a | group a, " + word, 14)
            self.assert_query_fault("a | group a into sum " + word, 22)
            self.assert_query_fault("a | group a into count as " + word, 27)
            self.assert_query("a | keep " + word[0] + word, ("keep", ("source", "a", None), ((column(word[0] + word), word[0] + word),)))

    def test_faults(self):
        self.assert_query_fault("pets | where age >", 19)
        for text, fault in (
            ("", 1), ("  ", 3), ("|", 1), ("1", 1), ("'a'", 1), ("(a)", 1), ("a b", 3), ("a at", 5), ("a at b", 6), ("a at 1", 6),
            ("a at 'b' at 'c'", 10), ("a |", 4), ("a | ", 5), ("a | |", 5), ("a | b", 5), ("a | 'where'", 5), ("a | on", 5),
            ("a | where", 10), ("a | where | distinct", 11), ("a | where a b", 13), ("a | where a as b", 13), ("a | where a)", 12),
            ("a | keep", 9), ("a | keep 1", 11), ("a | keep 1, a", 11), ("a | keep (a)", 13), ("a | keep (a), b", 13),
            ("a | keep -a | distinct", 13), ("a | keep a,", 12), ("a | keep a, ,", 13), ("a | keep a as", 14),
            ("a | keep a as 1", 15), ("a | keep a as b as c", 17), ("a | keep a b", 12), ("a | keep a 1", 12), ("a | keep a at 'x'", 12),
            ("a | keep a + b", 15), ("a | keep a down", 12), ("a | keep a = b, c", 15), ("a | join", 9), ("a | join b", 10),
            ("a | join (b", 12), ("a | join (b)", 13), ("a | join (b) a", 14), ("a | join (b) on", 16), ("a | join () on a", 11),
            ("a | join ((b)) on a", 11), ("a | join (b | where) on a", 20), ("a | join (b) on a on b", 19), ("a | union", 10),
            ("a | union b", 11), ("a | union (b", 13), ("a | union (b | distinct", 24), ("a | union (b))", 14), ("a | union (b) on a", 15),
            ("a | group", 10), ("a | group a", 12), ("a | group a,", 13), ("a | group a, into", 14), ("a | group a into", 17),
            ("a | group into", 15), ("a | group , into", 11), ("a | group into n", 16), ("a | group into count", 21),
            ("a | group into count n", 22), ("a | group into count a as n", 22), ("a | group into sum as n", 20),
            ("a | group into sum a", 21), ("a | group into sum a n", 22), ("a | group into sum a as", 24), ("a | group into sum 1 as n", 20),
            ("a | group into sum (a) as n", 20), ("a | group into least a as n,", 29), ("a | group into least a as n, b", 30),
            ("a | group into greatest a as n n", 32), ("a | group 1 into count as n", 11), ("a | group a b into count as n", 13),
            ("a | group into 'count' as n", 16), ("a | order", 10), ("a | order a,", 13), ("a | order down", 11),
            ("a | order a down down", 18), ("a | order a b", 13), ("a | order 1", 11), ("a | order -a", 11), ("a | order a, b down c", 21),
            ("a | limit", 10), ("a | limit a", 11), ("a | limit -1", 11), ("a | limit 1 2", 13), ("a | limit '1'", 11),
            ("a | limit 1, 2", 12), ("a | distinct a", 14), ("a | distinct distinct", 14), ("a | distinct,", 13), ("a, b", 2),
            ("a | where a is", 15), ("a | where a and | distinct", 17), ("a | where a in", 13),
        ):
            self.assert_query_fault(text, fault)

    def test_a_token_fault_comes_first(self):
        for text, fault in (
            ("a b !", 5), ("| | 'x", 7), ("where 1234567890123456789", 25), ("a | b abcdefghijklm", 19), ("a | where A", 11),
            ("a | union (" * 13 + "a .", 13 * 11 + 3), ("a | limit 'x | distinct", 24),
        ):
            self.assert_query_fault(text, fault)

    def test_a_query_is_no_expression(self):
        self.assert_query("a", ("source", "a", None))
        self.assert_expression("a", A)
        self.assert_expression_fault("a at 'x'", 3)
        self.assert_query_fault("a + b", 3)


class RandomTest(ParseTest):
    def test_trees_of_expressions(self):
        deepest = 0
        for seed in range(1500):
            rng = random.Random(seed)
            tree = any_expression(rng, rng.choice([1, 2, 4, 8, 16, 30]))
            text, levels = write(rng, tree)
            if levels <= 12:
                deepest = max(deepest, levels)
                self.assertEqual(parse_expression(text), tree, text)
            else:
                with self.assertRaises(SyntaxFault):
                    parse_expression(text)
        self.assertEqual(deepest, 12)

    def test_trees_of_queries(self):
        for seed in range(800):
            rng = random.Random(seed)
            tree = any_query(rng, rng.choice([1, 2, 4, 7]))
            text, levels = write_query(rng, tree)
            if levels <= 12:
                self.assertEqual(parse_query(text), tree, text)

    def assert_as_told(self, text, line, parse):
        fault = told_fault(text, line)
        if fault is None:
            parse(text)
        else:
            self.assert_fault(parse, text, fault)

    def test_texts_with_faults(self):
        for seed in range(1500):
            rng = random.Random(seed)
            if seed < 700:
                line, parse, text = "query", parse_query, write_query(rng, any_query(rng, rng.choice([1, 2, 4])))[0]
            else:
                line, parse, text = "expr", parse_expression, write(rng, any_expression(rng, rng.choice([2, 5, 9])), more=0.4)[0]
            words = text.split(" ")
            for _ in range(rng.choice([1, 1, 2])):
                place = rng.randrange(len(words) + 1)
                words[place:place + rng.randrange(2)] = rng.choice([[], [rng.choice(PARTS)], [rng.choice(PARTS), rng.choice(PARTS)]])
            self.assert_as_told(" ".join(words), line, parse)
            self.assert_as_told(text[:rng.randrange(len(text) + 1)], line, parse)

    def test_any_tokens(self):
        for seed in range(1500):
            rng = random.Random(seed)
            text = rng.choice(["", "a |", "a | where", "a | keep a ,", "a | group"]) + " "
            text += " ".join(rng.choice(PARTS) for _ in range(rng.randrange(7)))
            self.assert_as_told(text, "query", parse_query)
            self.assert_as_told(text[text.find("where") + 5:], "expr", parse_expression)


if __name__ == "__main__":
    unittest.main()
