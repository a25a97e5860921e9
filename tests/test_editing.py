"""Points 8, 9, 20, 42, 43 and 49: editing tables."""

import random
import unittest

from tests.desks import ID, LINKED, PAIRS, STRICT, TURNED, UNIQUE, WARES, WIDER, DeskCase, number
from tests.queries import valid_expression
from versiontables.editing import (
    alter_table, create_table, drop_table, put_rows, remove_rows, remove_where, update_rows,
)
from versiontables.errors import (
    DuplicateKey, DuplicateTable, InvalidName, InvalidQuery, InvalidRow, KeyChanged, SyntaxFault, UnknownTable,
)
from versiontables.forms import make_form, split_row
from versiontables.showing import show_expression
from versiontables.states import find_table, read_state
from versiontables.tables import write_rows

BIG = 10 ** 60


class EditingCase(DeskCase):
    def setUp(self):
        super().setUp()
        self.do("create_table", "wares", WARES)
        self.do("create_table", "pairs", PAIRS)
        self.do("put_rows", "wares", [(1, "a", 10), (2, "b", None), (3, "b", -5)])
        self.do("put_rows", "pairs", [(1, "x", 5), (1, "y", None), (2, "x", 7)])


class TablesTest(EditingCase):
    def test_create(self):
        self.assertIsNone(create_table(self.desk, "a", WIDER))
        self.assertEqual(find_table(self.desk.chunks, self.desk.working, "a")[0], WIDER)
        self.model.create_table("a", WIDER)
        self.do("create_table", "abcdefghijkl", PAIRS)
        self.assertEqual([name for name, _, _ in read_state(self.desk.chunks, self.desk.working)],
                         ["a", "abcdefghijkl", "pairs", "wares"])
        self.assertEqual(self.rows("a"), [])

    def test_create_with_a_wrong_name(self):
        for name in ("", "abcdefghijklm", "A", "a b", "a1", "wares ", "@"):
            self.fails(InvalidName, "create_table", name, WARES)
        self.fails(DuplicateTable, "create_table", "wares", WARES)
        self.fails(DuplicateTable, "create_table", "pairs", WIDER)

    def test_drop(self):
        self.assertIsNone(self.do("drop_table", "wares"))
        self.fails(UnknownTable, "drop_table", "wares")
        self.assertEqual(sorted(self.model.working), ["pairs"])
        self.do("create_table", "wares", UNIQUE)
        self.assertEqual(self.rows("wares"), [])

    def test_the_same_state_again(self):
        """Point 20: equal tables give an equal state, whatever led there."""
        before = self.desk.working
        self.do("create_table", "more", WARES)
        self.do("put_rows", "wares", [(9, "z", 0)])
        self.assertNotEqual(self.desk.working, before)
        self.do("remove_rows", "wares", [(9,)])
        self.do("drop_table", "more")
        self.assertEqual(self.desk.working, before)

    def test_alter(self):
        self.assertIsNone(self.do("alter_table", "wares", WIDER))
        self.assertEqual(self.rows("wares"), [(1, "a", 10, "red"), (2, "b", None, "red"), (3, "b", -5, "red")])
        self.do("alter_table", "wares", STRICT)
        self.assertEqual(self.rows("wares"), [(1, "a", 10), (2, "b", 7), (3, "b", -5)])
        words = make_form([ID, ("price", "text", "w", 0, "")], ["id"])
        self.do("alter_table", "wares", words)
        self.assertEqual(self.rows("wares"), [(1, "w"), (2, "w"), (3, "w")])

    def test_alter_to_a_form_that_is_unsound(self):
        """Point 49: nothing asks whether the working state becomes unsound."""
        self.do("put_rows", "wares", [(4, "c", 10)])
        self.do("alter_table", "wares", UNIQUE)
        self.do("alter_table", "wares", LINKED)

    def test_alter_with_another_key(self):
        for form in (TURNED, PAIRS, make_form([ID, number("price", "int", 0)], ["price"]),
                     make_form([ID, number("price", "int", 0)], ["id", "price"])):
            self.fails(KeyChanged, "alter_table", "wares", form)
            self.fails(UnknownTable, "alter_table", "nowhere", form)
        turned = make_form(list(PAIRS[0]), ["left", "right"])
        self.fails(KeyChanged, "alter_table", "pairs", turned)
        self.fails(UnknownTable, "alter_table", "nowhere", WARES)

    def test_a_link_to_another_table(self):
        self.do("create_table", "more", LINKED)
        self.assertEqual(self.do("put_rows", "more", [(1, "x", 99)]), 1)


class RowsTest(EditingCase):
    def test_put(self):
        self.assertEqual(self.do("put_rows", "wares", [(4, "d", 1), (0, "z", 2)]), 2)
        self.assertEqual(self.do("put_rows", "wares", [(4, "d", 1), (5, "e", 2), (1, "n", None)]), 1)
        self.assertEqual(self.do("put_rows", "wares", [(1, "n", None)]), 0)
        self.assertEqual(self.do("put_rows", "wares", []), 0)
        self.assertEqual(self.rows("wares"), [(0, "z", 2), (1, "n", None), (2, "b", None), (3, "b", -5), (4, "d", 1), (5, "e", 2)])

    def test_put_with_two_keys(self):
        self.assertEqual(self.do("put_rows", "pairs", [(2, "y", 0), (1, "x", 6), (1, "z", None)]), 2)
        # The key is the pair (right, left).
        self.assertEqual(self.rows("pairs"), [(1, "x", 6), (2, "x", 7), (1, "y", None), (2, "y", 0), (1, "z", None)])

    def test_put_what_is_no_row(self):
        for row in ((), (1,), (1, "a"), (1, "a", 2, 3), (None, "a", 2), ("1", "a", 2), (1, None, 2), (1, "a", "2"), (1, 2, 3)):
            self.fails(InvalidRow, "put_rows", "wares", [row])
            self.fails(InvalidRow, "put_rows", "wares", [(8, "x", 1), row, (8, "y", 2)])
            self.fails(UnknownTable, "put_rows", "nowhere", [row])

    def test_put_keys_told_twice(self):
        self.fails(DuplicateKey, "put_rows", "wares", [(8, "a", 1), (8, "b", 2)])
        self.fails(DuplicateKey, "put_rows", "wares", [(8, "a", 1), (9, "b", 2), (8, "a", 1)])
        self.fails(DuplicateKey, "put_rows", "wares", [(1, "a", 1), (1, "a", 1)])
        self.fails(DuplicateKey, "put_rows", "pairs", [(1, "x", 5), (1, "y", 0), (1, "x", None)])
        self.fails(InvalidRow, "put_rows", "wares", [(8, "a", 1), (8, "b", 2), (9, None, 1)])
        self.fails(UnknownTable, "put_rows", "nowhere", [(8, "a", 1), (8, "b", 2)])
        self.assertEqual(self.do("put_rows", "pairs", [(5, "x", 5), (5, "y", 5), (6, "x", 5)]), 3)

    def test_remove(self):
        self.assertEqual(self.do("remove_rows", "wares", [(3,), (1,)]), 2)
        self.assertEqual(self.do("remove_rows", "wares", [(3,), (9,), (-4,)]), 0)
        self.assertEqual(self.do("remove_rows", "wares", []), 0)
        self.assertEqual(self.rows("wares"), [(2, "b", None)])
        self.assertEqual(self.do("remove_rows", "wares", [(2,), (2,), (7,), (2,)]), 1)
        self.assertEqual(self.rows("wares"), [])
        self.assertEqual(self.do("remove_rows", "wares", [(2,)]), 0)
        self.fails(UnknownTable, "remove_rows", "nowhere", [(2,)])
        self.fails(UnknownTable, "remove_rows", "nowhere", [])
        self.fails(UnknownTable, "remove_rows", "nowhere", [(1,), ("a",), (1, "a")])

    def test_remove_with_two_keys(self):
        self.assertEqual(self.do("remove_rows", "pairs", [("x", 1), ("x", 3), ("z", 1), ("y", 1), ("x", 1)]), 2)
        self.assertEqual(self.rows("pairs"), [(2, "x", 7)])

    def test_nothing_is_returned_but_numbers(self):
        self.assertEqual(put_rows(self.desk, "wares", [(7, "", 0)]), 1)
        self.assertIs(type(remove_rows(self.desk, "wares", [(7,)])), int)
        self.assertIsNone(alter_table(self.desk, "wares", WIDER))
        self.assertIsNone(drop_table(self.desk, "wares"))

    def test_lists_stay(self):
        rows = [(7, "q", 1), (6, "p", 2), (1, "", 3)]
        keys = [(7,), (1,), (7,), (99,)]
        put_rows(self.desk, "wares", rows)
        remove_rows(self.desk, "wares", keys)
        self.assertEqual(rows, [(7, "q", 1), (6, "p", 2), (1, "", 3)])
        self.assertEqual(keys, [(7,), (1,), (7,), (99,)])

    def test_many_rows(self):
        rows = [(number_, "n" + str(number_), number_ * 7 % 50) for number_ in range(400)]
        random.Random(4).shuffle(rows)
        self.assertEqual(self.do("put_rows", "wares", rows), 397)
        self.assertEqual(self.do("remove_rows", "wares", [(number_,) for number_ in range(399, -1, -3)]), 134)
        root = find_table(self.desk.chunks, self.desk.working, "wares")[1]
        self.assertEqual(root, write_rows(self.desk.chunks, WARES, self.rows("wares")))

    def test_while_a_merge_is_open(self):
        """Point 49: the open conflicts do not change."""
        self.do("commit", "start")
        self.do("add_branch", "side")
        self.save_as("here", (1, "here", 1))
        self.do("checkout", "side")
        self.save_as("there", (1, "there", 1))
        self.do("merge", "main")
        merging = self.desk.merging
        self.assertEqual(merging[1], [("row", "wares", (1,), ("name",))])
        self.do("put_rows", "wares", [(1, "new", 5)])
        self.do("remove_rows", "wares", [(1,)])
        self.do("alter_table", "wares", WIDER)
        self.do("update_rows", "wares", [("price", "0")], "1 = 1")
        self.do("remove_where", "wares", "1 = 1")
        self.do("drop_table", "wares")
        self.do("create_table", "wares", WARES)
        self.assertEqual(self.desk.merging, merging)


class UpdateTest(EditingCase):
    def update(self, assignments, condition="1 = 1"):
        return self.do("update_rows", "wares", assignments, condition)

    def test_values_are_those_of_the_row_before(self):
        self.do("alter_table", "pairs", make_form([*PAIRS[0], number("other", "int", 3)], ["right", "left"]))
        self.assertEqual(self.do("update_rows", "pairs", [("value", "other"), ("other", "left + 1")], "right = 'x'"), 2)
        self.assertEqual(self.rows("pairs"), [(1, 2, "x", 3), (2, 3, "x", 3), (1, 3, "y", None)])
        self.do("update_rows", "pairs", [("other", "value"), ("value", "other")], "value is not null")
        self.assertEqual(self.rows("pairs"), [(1, 3, "x", 2), (2, 3, "x", 3), (1, 3, "y", None)])

    def test_the_number_of_rows(self):
        self.assertEqual(self.update([("price", "price + 1")]), 3)
        self.assertEqual(self.rows("wares"), [(1, "a", 11), (2, "b", None), (3, "b", -4)])
        # Rows count for which the condition is True, also if they stay as they were.
        self.assertEqual(self.update([("name", "name")], "id < 3"), 2)
        self.assertEqual(self.update([], "id < 3"), 2)
        self.assertEqual(self.update([("name", "'q'")], "price < 0"), 1)
        self.assertEqual(self.update([("name", "'q'")], "price = 99"), 0)
        self.assertEqual(self.update([("name", "'q'")], "not price = 99"), 2)

    def test_none(self):
        self.assertEqual(self.update([("price", "price * price")], "price is null"), 1)
        self.assertEqual(self.update([("price", "price - price")], "price is not null"), 2)
        self.do("put_rows", "wares", [(4, "", None)])
        self.do("alter_table", "wares", STRICT)
        self.do("create_table", "none", make_form([ID, number("price", "int", 0), number("other")], ["id"]))
        self.do("put_rows", "none", [(1, None, 1), (2, 5, 2)])
        self.fails(InvalidRow, "update_rows", "none", [("price", "other")], "1 = 1")
        self.fails(InvalidRow, "update_rows", "none", [("other", "1"), ("price", "other + 0")], "id = 1")
        self.assertEqual(self.do("update_rows", "none", [("price", "other")], "id = 2"), 1)
        self.assertEqual(self.rows("none"), [(1, None, 1), (2, 5, 5)])

    def test_large_results(self):
        edge = BIG - 1
        for value, text, result in (
            (edge - 1, "price + 1", edge), (edge, "price + 1", None), (-edge, "price - 1", None), (1 - edge, "price - 1", -edge),
            (10 ** 30, "price * price", None), (10 ** 29, "price * price * 10", 10 ** 59), (-edge, "- price", edge),
            (edge, "price - price + 4", 4), (edge, "price + 1 - 1", None),
        ):
            self.do("put_rows", "wares", [(1, "a", value)])
            self.assertEqual(self.update([("price", text)], "id = 1"), 1)
            self.assertEqual(self.rows("wares")[0], (1, "a", result))
            self.do("put_rows", "wares", [(1, "a", value), (2, "b", 1), (3, "c", 1)])
            self.do("alter_table", "wares", STRICT)
            if result is None:
                self.fails(InvalidRow, "update_rows", "wares", [("price", text)], "id = 1")
            else:
                self.assertEqual(self.update([("price", text)], "id = 1"), 1)
            self.do("alter_table", "wares", WARES)

    def test_texts(self):
        self.assertEqual(self.update([("name", "'" + "q" * 60 + "'"), ("price", "5")], "name = 'b'"), 2)
        self.assertEqual(self.rows("wares"), [(1, "a", 10), (2, "q" * 60, 5), (3, "q" * 60, 5)])

    def test_two_key_columns(self):
        self.assertEqual(self.do("update_rows", "pairs", [("value", "left * 2")], "right = 'x' and left < 2"), 1)
        for column in ("left", "right"):
            self.fails(InvalidQuery, "update_rows", "pairs", [(column, column)], "1 = 1")

    def test_wrong_assignments(self):
        for assignments in (
            [("nowhere", "1")], [("id", "1")], [("price", "1"), ("price", "2")], [("price", "1"), ("name", "'a'"), ("price", "1")],
            [("price", "'a'")], [("name", "1")], [("price", "1 = 1")], [("name", "name = 'a'")], [("price", "nowhere")],
            [("price", "name + 1")], [("price", "1"), ("name", "not 1")], [("", "1")], [("Price", "1")], [("price", "price is null")],
        ):
            self.fails(InvalidQuery, "update_rows", "wares", assignments, "1 = 1")
            self.fails(InvalidQuery, "update_rows", "wares", assignments, "1 = 2")
            self.fails((SyntaxFault, 1), "update_rows", "wares", assignments, "")
            self.fails((SyntaxFault, 3), "update_rows", "wares", assignments + [("nowhere", "1 2")], ")")
            self.fails(UnknownTable, "update_rows", "nowhere", assignments, "1 = 1")

    def test_wrong_conditions(self):
        for condition in ("1", "'a'", "price", "nowhere = 1", "name = 1", "not price", "price + 1", "- id"):
            self.fails(InvalidQuery, "update_rows", "wares", [("price", "1")], condition)
            self.fails(InvalidQuery, "update_rows", "wares", [], condition)
            self.fails(InvalidQuery, "remove_where", "wares", condition)
        self.do("create_table", "strict", STRICT)
        self.do("put_rows", "strict", [(1, "a", 1)])
        # The condition is invalid: InvalidQuery comes before InvalidRow, whatever the rows are.
        self.fails(InvalidQuery, "update_rows", "strict", [("price", "10 - 10 + 1")], "1")

    def test_the_order_of_the_errors(self):
        self.fails(UnknownTable, "update_rows", "nowhere", [("price", "(")], ")")
        self.fails((SyntaxFault, 2), "update_rows", "wares", [("price", "("), ("name", "'")], ") (")
        self.fails((SyntaxFault, 2), "update_rows", "wares", [("price", "1"), ("name", "'")], ") (")
        self.fails((SyntaxFault, 4), "update_rows", "wares", [("price", "1"), ("name", "'a'")], "id )")
        self.fails((SyntaxFault, 2), "update_rows", "wares", [("nowhere", "x"), ("nowhere", "(")], "1 = 1")
        self.fails((SyntaxFault, 1), "update_rows", "wares", [("price", "")], "1 = 1")
        self.fails(UnknownTable, "remove_where", "nowhere", "(")
        self.fails((SyntaxFault, 2), "remove_where", "wares", "(")
        self.do("alter_table", "wares", STRICT)
        self.do("put_rows", "wares", [(5, "x", BIG - 1)])
        self.fails(InvalidRow, "update_rows", "wares", [("price", "price + 1")], "1 = 1")
        self.fails(InvalidQuery, "update_rows", "wares", [("price", "price + 1"), ("id", "1")], "1 = 1")
        self.fails(InvalidQuery, "update_rows", "wares", [("price", "price + 1")], "name")

    def test_the_list_stays(self):
        assignments = [("price", "1"), ("name", "'a'")]
        self.assertEqual(update_rows(self.desk, "wares", assignments, "id = 1"), 1)
        self.assertEqual(assignments, [("price", "1"), ("name", "'a'")])

    def test_remove_where(self):
        self.assertEqual(self.do("remove_where", "wares", "price > 100"), 0)
        # The price None makes the condition None, which is not True.
        self.assertEqual(self.do("remove_where", "wares", "price < 0 or price > 0"), 2)
        self.assertEqual(self.rows("wares"), [(2, "b", None)])
        self.assertEqual(self.do("remove_where", "wares", "price is null"), 1)
        self.assertEqual(self.do("remove_where", "wares", "1 = 1"), 0)
        self.assertEqual(self.do("remove_where", "pairs", "left = 1"), 2)
        self.assertEqual(self.rows("pairs"), [(2, "x", 7)])
        self.assertIs(type(remove_where(self.desk, "pairs", "1 = 1")), int)


class RandomTest(DeskCase):
    def test_random_edits(self):
        forms = [WARES, WIDER, STRICT, UNIQUE, TURNED, PAIRS]
        for seed in range(12):
            self.begin()
            rng = random.Random(seed)
            for _ in range(40):
                self.edit(rng, rng.choice("abc"), forms)
            self.assert_closed()

    def edit(self, rng, name, forms):
        chance = rng.random()
        form, rows = self.model.working.get(name, (WARES, []))
        if chance < 0.15:
            self.do("create_table", name, rng.choice(forms))
        elif chance < 0.2:
            self.do("drop_table", name)
        elif chance < 0.3:
            self.do("alter_table", name, rng.choice(forms))
        elif chance < 0.6:
            self.do("put_rows", name, [self.row(rng, form) for _ in range(rng.choice([0, 1, 2, 20]))])
        elif chance < 0.75:
            keys = [split_row(form, row)[0] for row in rows + [self.row(rng, form)] * 2]
            self.do("remove_rows", name, rng.sample(keys, rng.randrange(len(keys))))
        else:
            self.edit_where(rng, name, form)

    def edit_where(self, rng, name, form):
        columns = tuple((column[0], column[1].strip("?")) for column in form[0])
        condition = show_expression(valid_expression(rng, columns, rng.choice(["truth"] * 9 + ["int"]), 5))
        if rng.random() < 0.3:
            self.do("remove_where", name, condition)
            return
        assignments = []
        for column, kind in rng.sample(columns, rng.randrange(1, 3)):
            assignments.append((column, show_expression(valid_expression(rng, columns, kind, 3))))
        self.do("update_rows", name, assignments, condition)

    def row(self, rng, form):
        pools = {"int": list(range(30)) + [BIG - 1, -3], "text": ["", "a", "b", "ab", "~"] + ["k" + str(one) for one in range(20)]}
        return tuple(rng.choice(pools[kind.strip("?")] + [None] * 3 * kind.endswith("?")) for _, kind, *_ in form[0])


if __name__ == "__main__":
    unittest.main()
