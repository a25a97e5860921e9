"""Points 33, 35, 55, 56 and 57: log, blame, bisect."""

import unittest

from tests.desks import PAIRS, STRICT, TURNED, WARES, WIDER, DeskCase
from versiontables.errors import (
    InvalidVersion, MissingRow, NoPath, NotBroken, SyntaxFault, UnknownTable, UnknownVersion,
)
from versiontables.tracing import bisect, log

NOT_VERSIONS = ("", "Main", "~", ":0")
NOT_COMMITS = ("nowhere", "/main", "@" + "~" * 50, "main^^", ":99999999")


class TracingCase(DeskCase):
    def setUp(self):
        super().setUp()
        self.do("create_table", "wares", WARES)
        self.start = self.save_as("start", (1, "a", 1), (2, "b", 2), (3, "c", 3))

    def merge(self, version, *sides):
        """Merge, settle all conflicts to these sides, and commit."""
        self.do("merge", version)
        for side in sides:
            self.do("settle", 0, side)
        return self.do("commit", "both")


class LogTest(TracingCase):
    def test_one_line(self):
        two = self.save_as("two", (4, "d", 4))
        self.assertEqual(self.do("log", "@"), [two, self.start, self.root])
        self.assertEqual(self.do("log", "main~"), [self.start, self.root])
        self.assertEqual(self.do("log", ":" + str(self.root)), [self.root])

    def test_each_commit_once(self):
        self.do("add_branch", "side")
        here = [self.save_as("here", (4, "d", 4)), self.save_as("here too", (5, "e", 5))]
        self.do("checkout", "side")
        there = [self.save_as("there", (6, "f", 6))]
        self.do("checkout", "main")
        both = self.merge("side")
        self.do("checkout", "side")
        there += [self.save_as("there too", (7, "g", 7))]
        last = self.merge("main")
        self.assertEqual(self.do("log", "@"), [last, there[1], both, there[0], here[1], here[0], self.start, self.root])
        self.assertEqual(self.do("log", "main"), [both, there[0], here[1], here[0], self.start, self.root])

    def test_errors(self):
        for version in NOT_VERSIONS:
            self.fails(InvalidVersion, "log", version)
        for version in NOT_COMMITS:
            self.fails(UnknownVersion, "log", version)

    def test_the_list_belongs_to_the_caller(self):
        log(self.desk, "@").clear()
        self.assertEqual(len(log(self.desk, "@")), 2)


class BlameTest(TracingCase):
    def origin(self, key, version="@", table="wares"):
        return self.do("blame", version, table, key)

    def test_one_line(self):
        two = self.save_as("two", (1, "x", 1), (4, "d", 4))
        three = self.save_as("three", (2, "b", 9))
        self.assertEqual([self.origin((key,)) for key in (1, 2, 3, 4)], [two, three, self.start, two])
        self.assertEqual([self.origin((key,), "main~") for key in (1, 2, 3, 4)], [two, self.start, self.start, two])

    def test_a_row_that_came_back(self):
        self.save_as("two", (1, "x", 1))
        three = self.save_as("three", (1, "a", 1))
        self.assertEqual(self.origin((1,)), three)
        self.do("remove_rows", "wares", [(2,)])
        self.do("commit", "gone")
        five = self.save_as("five", (2, "b", 2))
        self.assertEqual(self.origin((2,)), five)

    def test_the_working_state_does_not_count(self):
        self.do("put_rows", "wares", [(1, "new", 1), (9, "z", 9)])
        self.assertEqual(self.origin((1,)), self.start)
        self.fails(MissingRow, "blame", "@", "wares", (9,))

    def test_merges(self):
        self.do("add_branch", "side")
        here = self.save_as("here", (1, "here", 1), (4, "d", 4), (5, "same", 5), (6, "h", 6))
        self.do("checkout", "side")
        there = self.save_as("there", (2, "there", 2), (4, "d", 4), (5, "same", 5), (6, "t", 6))
        self.do("checkout", "main")
        both = self.merge("side", "theirs")
        # The first parent if both have the row, otherwise the one that has it.
        self.assertEqual([self.origin((key,)) for key in range(1, 7)], [here, there, self.start, here, here, there])
        self.do("checkout", "side")
        other = self.merge(":" + str(here), "ours")
        self.assertEqual([self.origin((key,)) for key in range(1, 7)], [here, there, self.start, there, there, there])
        self.assertNotEqual(both, other)

    def test_a_row_put_together_in_a_merge(self):
        self.do("add_branch", "side")
        self.save_as("here", (1, "here", 1))
        self.do("checkout", "side")
        self.save_as("there", (1, "a", 7))
        both = self.merge("main")
        self.assertEqual(self.rows("wares")[0], (1, "here", 7))
        self.assertEqual(self.origin((1,)), both)

    def test_changed_forms(self):
        self.do("alter_table", "wares", STRICT)
        strict = self.do("commit", "strict")
        self.assertEqual(self.origin((1,)), strict)
        self.do("alter_table", "wares", WIDER)
        wider = self.do("commit", "wider")
        self.assertEqual(self.origin((1,)), wider)
        self.do("alter_table", "wares", WARES)
        self.do("commit", "back")
        # The form is that of the first commit, but between them it was another one.
        self.assertEqual(self.origin((1,)), self.world.addresses[-1])
        self.assertEqual(self.origin((1,), "main~~~"), self.start)

    def test_tables_dropped_and_made_again(self):
        self.do("drop_table", "wares")
        self.do("commit", "gone")
        self.fails(UnknownTable, "blame", "@", "wares", (1,))
        self.do("create_table", "wares", WARES)
        again = self.save_as("again", (1, "a", 1))
        self.assertEqual(self.origin((1,)), again)
        self.do("drop_table", "wares")
        self.do("create_table", "wares", WARES)
        self.save_as("more", (1, "a", 1), (2, "b", 2))
        # The table was never away in a commit.
        self.assertEqual(self.origin((1,)), again)
        self.do("drop_table", "wares")
        self.do("create_table", "wares", TURNED)
        turned = self.save_as("turned", ("1", "a", 1))
        self.assertEqual(self.origin(("1",)), turned)

    def test_two_keys(self):
        self.do("create_table", "pairs", PAIRS)
        one = self.save_as("one", (1, "x", 1), (2, "x", 2), table="pairs")
        two = self.save_as("two", (1, "x", 3), table="pairs")
        self.assertEqual([self.origin(("x", key), table="pairs") for key in (1, 2)], [two, one])
        self.fails(MissingRow, "blame", "@", "pairs", ("x", 3))

    def test_the_root_commit_and_others(self):
        self.fails(UnknownTable, "blame", "@~", "wares", (1,))
        self.fails(UnknownTable, "blame", "@", "nowhere", (1,))
        self.fails(UnknownTable, "blame", "@", "", (1,))
        self.fails(MissingRow, "blame", "@", "wares", (9,))
        for version in NOT_VERSIONS:
            self.fails(InvalidVersion, "blame", version, "nowhere", (1,))
        for version in NOT_COMMITS:
            self.fails(UnknownVersion, "blame", version, "nowhere", (1,))

    def test_a_long_line(self):
        for count in range(60):
            self.save_as("n" + str(count), (100 + count % 7, "n", count))
        self.assertEqual(self.origin((1,)), self.start)
        self.assertEqual(self.origin((103,)), self.world.addresses[-1])
        self.assertEqual(self.origin((104,)), self.world.addresses[-7])


class BisectTest(TracingCase):
    TEXT = "wares | where price > 100"

    def line(self, prices):
        """A commit for each price of the row 1; the list of their addresses, from `start` on."""
        return [self.start] + [self.save_as("n" + str(count), (1, "n" + str(count), price)) for count, price in enumerate(prices)]

    def search(self, good, bad, text=TEXT):
        return self.do("bisect", good, bad, text)

    def test_lines_of_each_length(self):
        for length in range(1, 10):
            for broken in range(1, length + 1):
                self.setUp()
                line = self.line([1] * (broken - 1) + [101] * (length - broken + 1))
                commit, asked = self.search(":" + str(line[0]), "@")
                self.assertEqual(commit, line[broken])
                self.assertEqual(len(asked), len(set(asked)))

    def test_the_commits_that_are_asked(self):
        line = self.line([1] * 5 + [101] * 3)
        # Numbers 0 to 8: 4 does not hold, 6 holds, 5 does not.
        self.assertEqual(self.search("@~~~~~~~~", "@"), (line[6], [line[4], line[6], line[5]]))
        self.assertEqual(self.search(":" + str(self.start), "main"), (line[6], [line[4], line[6], line[5]]))
        self.assertEqual(self.search(":" + str(self.root), "main~"), (line[6], [line[3], line[5], line[6]]))
        self.assertEqual(self.search("@~~~", "@~~"), (line[6], []))

    def test_a_query_that_holds_again_and_again(self):
        self.line([101, 1, 101, 1, 1, 101, 1, 101])
        for back in range(8):
            self.search("main" + "~" * back, "@")
            self.search(":" + str(self.start), "@" + "~" * back)

    def test_queries_that_are_invalid_at_some_commits(self):
        """Where there is no such table or column, the query does not hold."""
        self.do("create_table", "more", WIDER)
        more = self.save_as("more", (1, "a", 1, "red"), table="more")
        self.line([2, 3, 4])
        self.assertEqual(self.search(":" + str(self.root), "@", "more")[0], more)
        self.do("alter_table", "wares", WIDER)
        wider = self.do("commit", "wider")
        self.line([5, 6])
        self.assertEqual(self.search(":" + str(self.root), "@", "wares | where tone = 'red'")[0], wider)
        self.fails(NotBroken, "bisect", ":" + str(self.root), "@", "wares | where nowhere = 1")
        self.fails(NotBroken, "bisect", "@~", "@", "wares | where price")

    def test_sources_with_at(self):
        """They are read from their own commits, wherever the others are read from."""
        line = self.line([1, 101, 101, 102])
        text = "wares | keep price as p | join (wares at '@' | keep price as q) on p = q and p > 100"
        self.assertEqual(self.search(":" + str(self.start), "@", text)[0], line[4])
        self.fails(NotBroken, "bisect", ":" + str(self.start), "@", "wares at '@'")
        self.fails(NotBroken, "bisect", ":" + str(self.start), "@", "wares at 'nowhere'")
        self.fails(NotBroken, "bisect", ":" + str(self.start), "@", "wares at ''")

    def test_the_first_line(self):
        self.do("add_branch", "side")
        here = self.line([1, 1])
        self.do("checkout", "side")
        there = self.save_as("there", (4, "d", 400))
        self.do("checkout", "main")
        both = self.merge("side")
        self.assertEqual(self.search(":" + str(self.start), "@"), (both, [here[1], here[2]]))
        self.fails(NoPath, "bisect", ":" + str(there), "@", self.TEXT)
        self.fails(NoPath, "bisect", "side", "main", "nowhere | where 1")
        self.fails(NoPath, "bisect", "main", ":" + str(here[1]), self.TEXT)
        self.do("checkout", "side")
        self.assertEqual(self.search("side~", "side"), (there, []))

    def test_not_broken(self):
        self.line([1, 101, 101, 1])
        self.fails(NotBroken, "bisect", "@~", "@", self.TEXT)
        self.fails(NotBroken, "bisect", "@~~", "@~", self.TEXT)
        self.fails(NotBroken, "bisect", "@~~~", "@", self.TEXT)
        # Good and bad are one commit: the query holds there, or it does not.
        for version in ("@", "@~", "@~~~", ":" + str(self.root)):
            self.fails(NotBroken, "bisect", version, version, self.TEXT)

    def test_the_order_of_the_errors(self):
        self.line([1, 101])
        for version in NOT_VERSIONS:
            self.fails(InvalidVersion, "bisect", version, "nowhere", "(")
            self.fails(InvalidVersion, "bisect", "@", version, "(")
            self.fails(UnknownVersion, "bisect", "nowhere", version, "(")
        for version in NOT_COMMITS:
            self.fails(UnknownVersion, "bisect", version, "", "(")
            self.fails(UnknownVersion, "bisect", "@", version, "(")
        self.fails((SyntaxFault, 1), "bisect", "@", "@~", "(")
        self.fails((SyntaxFault, 8), "bisect", "@~", "@", "wares |")
        self.fails(NoPath, "bisect", "@", "@~", self.TEXT)
        self.fails(NoPath, "bisect", "@", "@~", "nowhere")

    def test_the_list_belongs_to_the_caller(self):
        self.line([1, 1, 101])
        bisect(self.desk, "@~~~", "@", self.TEXT)[1].clear()
        self.assertEqual(len(bisect(self.desk, "@~~~", "@", self.TEXT)[1]), 2)


if __name__ == "__main__":
    unittest.main()
