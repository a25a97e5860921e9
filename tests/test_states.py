"""Points 19 and 20: states."""

import itertools
import unittest

from tests.support import STAFF, new_chunks, written
from versiontables.chunks import Chunks
from versiontables.errors import MissingChunk, UnknownTable
from versiontables.forms import make_form
from versiontables.states import (
    find_table,
    plain_tables,
    read_state,
    remove_table,
    set_table,
    state_rows,
    write_state,
)
from versiontables.tables import write_rows

GOODS = make_form([("code", "text", "", 0, ""), ("price", "int?", None, 0, "")], ["code"])
GOODS_ROWS = [("a", 5), ("b", None)]
STAFF_ROWS = [(None, 1, "ann"), (7, 2, "bob"), (8, 30, "")]


class StatesTest(unittest.TestCase):
    def setUp(self):
        self.chunks = new_chunks()
        self.empty = write_rows(self.chunks, STAFF, [])
        self.goods = ("goods", GOODS, write_rows(self.chunks, GOODS, GOODS_ROWS[::-1]))
        self.staff = ("staff", STAFF, write_rows(self.chunks, STAFF, STAFF_ROWS[::-1]))
        self.other = ("ab", STAFF, self.empty)
        self.tables = [self.other, self.goods, self.staff]
        self.state = write_state(self.chunks, self.tables)

    def assert_state(self, state, tables):
        """The state consists of these tables, which stand in order, and its chunk is as it must be."""
        text = written(("state", tuple(tables)))
        self.assertEqual(self.chunks.book.find(text), state)
        self.assertIs(self.chunks.has(state), True)
        self.assertEqual(self.chunks.get(state), text)
        self.assertEqual(read_state(self.chunks, state), tables)

    def test_no_tables(self):
        state = write_state(self.chunks, [])
        self.assertEqual(self.chunks.get(state), "(t5:state())")
        self.assertEqual(read_state(self.chunks, state), [])
        self.assertEqual(plain_tables(self.chunks, state), [])
        self.assertIsNone(find_table(self.chunks, state, "staff"))
        self.assertEqual(remove_table(self.chunks, state, "staff"), state)

    def test_one_table(self):
        state = write_state(self.chunks, [self.goods])
        columns = "(t4:codet4:textt0:i0;t0:)(t5:pricet4:int?ni0;t0:)"
        root = str(self.goods[2])
        self.assertEqual(self.chunks.get(state), "(t5:state((t5:goods((" + columns + ")(t4:code))i" + root + ";)))")

    def test_write_in_any_order(self):
        for tables in itertools.permutations(self.tables):
            given = list(tables)
            self.assertEqual(write_state(self.chunks, given), self.state)
            self.assertEqual(given, list(tables))
        self.assert_state(self.state, self.tables)

    def test_order_is_by_the_names(self):
        names = ["b", "ab", "a", "aa", "z", "ba", "abcdefghijkl"]
        state = write_state(self.chunks, [(name, STAFF, self.empty) for name in names])
        self.assert_state(state, [(name, STAFF, self.empty) for name in sorted(names)])

    def test_a_hundred_tables(self):
        names = [first + second for first in "abcdefghij" for second in "klmnopqrst"]
        state = write_state(self.chunks, [(name, STAFF, self.empty) for name in reversed(names)])
        self.assert_state(state, [(name, STAFF, self.empty) for name in names])
        self.assertEqual(find_table(self.chunks, state, "gp"), (STAFF, self.empty))

    def test_equal_states_have_one_address_in_two_stores(self):
        other = Chunks(self.chunks.book)
        staff = ("staff", STAFF, write_rows(other, STAFF, STAFF_ROWS))
        goods = ("goods", GOODS, write_rows(other, GOODS, GOODS_ROWS))
        self.assertEqual(write_state(other, [staff, goods, ("ab", STAFF, write_rows(other, STAFF, []))]), self.state)

    def test_unlike_states(self):
        renamed = ("stagg",) + self.staff[1:]
        others = [("v", "text?", None, 0, ""), ("v", "text", "", 0, ""), ("v", "text", "x", 0, "")]
        others += [("v", "text", "", 1, ""), ("v", "text", "", 0, "a"), ("w", "text", "", 0, "")]
        forms = [make_form([("id", "int", 0, 0, ""), other], ["id"]) for other in others]
        forms += [make_form([("id", "int", 0, 0, ""), ("k", "int", 0, 0, "")], key) for key in (["id"], ["k"])]
        fewer = ("staff", STAFF, write_rows(self.chunks, STAFF, STAFF_ROWS[1:]))
        changed = ("staff", STAFF, write_rows(self.chunks, STAFF, [(0, 1, "ann")] + STAFF_ROWS[1:]))
        states = [[], self.tables, self.tables[1:], self.tables[:2], [self.staff]]
        states.extend([self.other, self.goods, one] for one in (renamed, fewer, changed))
        states.extend([("staff", form, self.empty)] for form in forms)
        addresses = [write_state(self.chunks, tables) for tables in states]
        self.assertEqual(len(set(addresses)), len(states))

    def test_find_table(self):
        for name, form, root in self.tables:
            self.assertEqual(find_table(self.chunks, self.state, name), (form, root))
        for name in ("", "a", "abc", "good", "goodss", "people", "z"):
            self.assertIsNone(find_table(self.chunks, self.state, name))

    def test_set_table(self):
        for name in ("a", "abc", "hh", "zz"):
            added = (name, GOODS, self.goods[2])
            state = set_table(self.chunks, self.state, *added)
            self.assert_state(state, sorted(self.tables + [added]))
        for place, table in enumerate(self.tables):
            replaced = (table[0], GOODS, self.empty)
            state = set_table(self.chunks, self.state, *replaced)
            self.assert_state(state, self.tables[:place] + [replaced] + self.tables[place + 1:])
            self.assertEqual(set_table(self.chunks, self.state, *table), self.state)
            self.assertEqual(set_table(self.chunks, state, *table), self.state)
        self.assert_state(self.state, self.tables)

    def test_set_table_in_the_empty_state(self):
        state = set_table(self.chunks, write_state(self.chunks, []), *self.staff)
        self.assert_state(state, [self.staff])

    def test_remove_table(self):
        for place, table in enumerate(self.tables):
            state = remove_table(self.chunks, self.state, table[0])
            self.assert_state(state, self.tables[:place] + self.tables[place + 1:])
            self.assertEqual(remove_table(self.chunks, state, table[0]), state)
        for name in ("a", "abc", "good", "z"):
            self.assertEqual(remove_table(self.chunks, self.state, name), self.state)
        self.assert_state(self.state, self.tables)

    def test_whatever_led_to_a_state(self):
        for tables in itertools.permutations(self.tables + [("zz", GOODS, self.goods[2])]):
            state = write_state(self.chunks, [])
            for name, _, _ in tables:
                state = set_table(self.chunks, state, name, STAFF, self.empty)
            for table in tables:
                state = set_table(self.chunks, state, *table)
            self.assertEqual(remove_table(self.chunks, state, "zz"), self.state)

    def test_state_rows(self):
        self.assertEqual(state_rows(self.chunks, self.state, "staff"), STAFF_ROWS)
        self.assertEqual(state_rows(self.chunks, self.state, "goods"), GOODS_ROWS)
        self.assertEqual(state_rows(self.chunks, self.state, "ab"), [])
        for name in ("", "a", "staf", "staffs", "z"):
            with self.assertRaises(UnknownTable):
                state_rows(self.chunks, self.state, name)
        with self.assertRaises(UnknownTable):
            state_rows(self.chunks, write_state(self.chunks, []), "staff")

    def test_plain_tables(self):
        self.assertEqual(
            plain_tables(self.chunks, self.state),
            [("ab", STAFF, []), ("goods", GOODS, GOODS_ROWS), ("staff", STAFF, STAFF_ROWS)],
        )
        for _, _, rows in plain_tables(self.chunks, self.state):
            self.assertIs(type(rows), list)

    def test_lists_belong_to_the_caller(self):
        found = read_state(self.chunks, self.state)
        found.pop()
        found.reverse()
        self.assertEqual(read_state(self.chunks, self.state), self.tables)
        found = state_rows(self.chunks, self.state, "staff")
        found.clear()
        self.assertEqual(state_rows(self.chunks, self.state, "staff"), STAFF_ROWS)
        found = plain_tables(self.chunks, self.state)
        found[2][2].clear()
        del found[0]
        self.assertEqual(plain_tables(self.chunks, self.state)[2], ("staff", STAFF, STAFF_ROWS))
        self.assertEqual(len(plain_tables(self.chunks, self.state)), 3)

    def test_a_list_that_is_given_stays_free(self):
        tables = [self.staff, self.goods]
        state = write_state(self.chunks, tables)
        tables.clear()
        self.assert_state(state, [self.goods, self.staff])

    def test_a_state_that_is_missing(self):
        self.chunks.drop(self.state)
        for call in (
            lambda: read_state(self.chunks, self.state),
            lambda: find_table(self.chunks, self.state, "staff"),
            lambda: set_table(self.chunks, self.state, *self.staff),
            lambda: remove_table(self.chunks, self.state, "staff"),
            lambda: state_rows(self.chunks, self.state, "staff"),
            lambda: plain_tables(self.chunks, self.state),
        ):
            with self.assertRaises(MissingChunk) as caught:
                call()
            self.assertEqual(caught.exception.address, self.state)

    def test_rows_that_are_missing(self):
        self.chunks.drop(self.staff[2])
        for call in (
            lambda: state_rows(self.chunks, self.state, "staff"),
            lambda: plain_tables(self.chunks, self.state),
        ):
            with self.assertRaises(MissingChunk) as caught:
                call()
            self.assertEqual(caught.exception.address, self.staff[2])


if __name__ == "__main__":
    unittest.main()
