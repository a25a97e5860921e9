"""Points 41, 44 and 48: asking queries at a desk."""

import unittest

from tests.desks import PAIRS, WARES, WIDER, DeskCase
from versiontables.asking import ask
from versiontables.errors import InvalidQuery, InvalidVersion, MissingChunk, SyntaxFault, UnknownVersion

COLUMNS = (("id", "int"), ("name", "text"), ("price", "int"))
NOT_VERSIONS = ("", "Main", "a b", "~", ":0", ":07", "@@", "/", "nowhereatalls", "main" + "~" * 56 + " ")
NOT_COMMITS = ("nowhere", "/main", ":999999", "main~~~", "@^", "main^", "side^", ":" + "9" * 18)


class AskTest(DeskCase):
    def setUp(self):
        super().setUp()
        self.do("create_table", "wares", WARES)
        self.one = self.save_as("one", (2, "b", 20), (1, "a", None))
        self.do("add_branch", "side")
        self.two = self.save_as("two", (3, "c", 30), (1, "z", 5))
        self.do("add_tag", "first", "side")
        self.do("create_table", "pairs", PAIRS)
        self.do("put_rows", "pairs", [(2, "b", None), (1, "b", 1), (2, "a", 2)])
        self.do("remove_rows", "wares", [(2,)])

    def test_the_working_state(self):
        self.assertEqual(self.do("ask", "wares"), (COLUMNS, [(1, "z", 5), (3, "c", 30)]))
        self.assertEqual(self.do("ask", "wares | where price > 5 | keep id"), ((("id", "int"),), [(3,)]))
        # Base kinds, and the rows in order of the keys.
        columns = (("left", "int"), ("right", "text"), ("value", "int"))
        self.assertEqual(self.do("ask", "pairs"), (columns, [(2, "a", 2), (1, "b", 1), (2, "b", None)]))
        self.do("alter_table", "wares", WIDER)
        self.assertEqual(self.do("ask", "wares | keep tone | limit 1"), ((("tone", "text"),), [("red",)]))
        self.do("drop_table", "pairs")
        self.fails(InvalidQuery, "ask", "pairs")

    def test_a_version(self):
        rows = [(1, "z", 5), (2, "b", 20), (3, "c", 30)]
        for version in ("@", "main", ":" + str(self.two)):
            self.assertEqual(self.do("ask", "wares", version=version), (COLUMNS, rows))
        for version in ("@~", "side", "first", "main~", ":" + str(self.one)):
            self.assertEqual(self.do("ask", "wares", version=version), (COLUMNS, [(1, "a", None), (2, "b", 20)]))
        self.fails(InvalidQuery, "ask", "pairs", version="@")
        self.fails(InvalidQuery, "ask", "wares", version="@~~")
        self.assertEqual(self.do("ask", "pairs | keep left", version=None)[1], [(2,), (1,), (2,)])

    def test_sources_with_at(self):
        self.assertEqual(self.do("ask", "wares at 'side'")[1], [(1, "a", None), (2, "b", 20)])
        self.assertEqual(self.do("ask", "wares at '@' | keep id")[1], [(1,), (2,), (3,)])
        # `version` is for the sources without `at` alone.
        text = "wares at '@' | keep id | union (wares | keep id) | union (wares at ':" + str(self.one) + "' | keep id)"
        self.assertEqual(self.do("ask", text)[1], [(1,), (2,), (3,), (1,), (3,), (1,), (2,)])
        self.assertEqual(self.do("ask", text, version="@~")[1], [(1,), (2,), (3,), (1,), (2,), (1,), (2,)])
        text = "wares | keep id as a, price as p | join (wares at '@~' | keep id as b, price as q) on a = b and q is null"
        self.assertEqual(self.do("ask", text)[1], [(1, 5, 1, None)])
        self.assertEqual(self.do("ask", text, version="side")[1], [(1, None, 1, None)])

    def test_sources_with_at_that_name_nothing(self):
        for version in NOT_VERSIONS + NOT_COMMITS:
            if len(version) > 60:
                continue
            self.fails(InvalidQuery, "ask", "wares at '" + version + "'")
            self.fails(InvalidQuery, "ask", "wares | union (wares at '" + version + "')", version="main")
        self.fails(InvalidQuery, "ask", "pairs at '@'")
        self.fails(InvalidQuery, "ask", "wares at '@~~'")
        self.fails(InvalidQuery, "ask", "wares at '@~~'", version="@")

    def test_tables_that_are_not_there(self):
        self.fails(InvalidQuery, "ask", "nowhere")
        self.fails(InvalidQuery, "ask", "wares | union (nowhere)")
        self.fails(InvalidQuery, "ask", "nowhere", version="@")

    def test_invalid_queries(self):
        for text in ("wares | where nowhere = 1", "wares | where id", "wares | keep id, id", "wares | union (pairs)",
                     "wares | join (wares) on 1 = 1", "wares | order nowhere", "wares | group id into sum name as s"):
            self.fails(InvalidQuery, "ask", text)
            self.fails(InvalidQuery, "ask", text, version="@")

    def test_the_order_of_the_errors(self):
        self.fails((SyntaxFault, 1), "ask", "")
        self.fails((SyntaxFault, 10), "ask", "nowhere |", version="")
        self.fails((SyntaxFault, 1), "ask", "| nowhere", version="nowhere")
        for version in NOT_VERSIONS:
            self.fails(InvalidVersion, "ask", "nowhere at ''", version=version)
        for version in NOT_COMMITS:
            self.fails(UnknownVersion, "ask", "nowhere at ''", version=version)
            self.fails(UnknownVersion, "ask", "wares | where id", version=version)

    def test_the_list_belongs_to_the_caller(self):
        _, rows = ask(self.desk, "wares")
        rows.clear()
        self.assertEqual(ask(self.desk, "wares")[1], [(1, "z", 5), (3, "c", 30)])

    def test_chunks_that_are_missing(self):
        for missing in (self.two, self.desk.working):
            text = self.desk.chunks.get(missing)
            self.desk.chunks.drop(missing)
            with self.assertRaises(MissingChunk) as caught:
                ask(self.desk, "wares | union (wares at 'main~')")
            self.assertEqual(caught.exception.address, missing)
            self.desk.chunks.put(text)


if __name__ == "__main__":
    unittest.main()
