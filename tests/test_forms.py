"""Points 6 to 9: columns, forms, rows, reshaping."""

import itertools
import unittest

from versiontables.errors import InvalidForm
from versiontables.forms import (
    column_names,
    find_column,
    fits,
    join_row,
    key_signature,
    make_form,
    reshape,
    split_row,
)

DEFAULTS = {"int": 0, "int?": None, "text": "", "text?": None}
KINDS = ("int", "int?", "text", "text?")
TWELVE = [("column" + letter, "int", number, 0, "") for number, letter in enumerate("abcdefghijkl")]
FOUR = [
    ("code", "text", "x", 0, ""),
    ("id", "int", 0, 1, ""),
    ("note", "text?", None, 0, ""),
    ("owner", "int?", 5, 1, "people"),
]


def column(name="a", kind="int", default=0, unique=0, link=""):
    return (name, kind, default, unique, link)


class MakeFormTest(unittest.TestCase):
    def assert_invalid(self, columns, key):
        given = (list(columns), list(key))
        with self.assertRaises(InvalidForm):
            make_form(columns, key)
        self.assertEqual((columns, key), given)

    def assert_invalid_anywhere(self, wrong):
        """The column makes a form invalid at any place, also if the key does not name it."""
        good = [("x" * (number + 1), "int", 0, 0, "") for number in range(11)]
        for count in (1, 2, 11):
            for place in range(count + 1):
                self.assert_invalid(good[:place] + [wrong] + good[place:count], ["x"])
        if wrong[1] in ("int", "text"):
            self.assert_invalid([wrong], [wrong[0]])

    def test_one_column(self):
        self.assertEqual(make_form([column()], ["a"]), ((("a", "int", 0, 0, ""),), ("a",)))

    def test_any_order(self):
        for columns in itertools.permutations(FOUR):
            for key in (["code"], ["id"], ["code", "id"], ["id", "code"]):
                self.assertEqual(make_form(list(columns), key), (tuple(FOUR), tuple(key)))

    def test_kinds_of_values(self):
        columns, key = make_form(FOUR[::-1], ["id", "code"])
        self.assertIs(type(columns), tuple)
        self.assertIs(type(key), tuple)
        for one in columns:
            self.assertIs(type(one), tuple)

    def test_lists_stay_as_they_were(self):
        columns = FOUR[::-1]
        key = ["id", "code"]
        form = make_form(columns, key)
        self.assertEqual(columns, FOUR[::-1])
        self.assertEqual(key, ["id", "code"])
        columns.clear()
        key.append("note")
        self.assertEqual(form, (tuple(FOUR), ("id", "code")))

    def test_order_is_by_the_names(self):
        names = ["b", "ab", "a", "aa", "z", "ba"]
        form = make_form([column(name) for name in names], ["z"])
        self.assertEqual(column_names(form), ("a", "aa", "ab", "b", "ba", "z"))

    def test_number_of_columns(self):
        self.assertEqual(make_form(TWELVE[::-1], ["columnc"]), (tuple(TWELVE), ("columnc",)))
        for count in range(1, 13):
            self.assertEqual(len(make_form(TWELVE[:count], ["columna"])[0]), count)
        self.assert_invalid(TWELVE + [("m", "int", 0, 0, "")], ["m"])
        self.assert_invalid([("m", "int", 0, 0, "")] + TWELVE, ["columnc"])
        self.assert_invalid(TWELVE + [("m", "int", 0, 0, ""), ("n", "int", 0, 0, "")], ["m"])
        self.assert_invalid([], [])
        self.assert_invalid([], ["a"])

    def test_two_columns_of_one_name(self):
        self.assert_invalid([column(), column()], ["a"])
        self.assert_invalid([column(), column(kind="text", default="")], ["a"])
        for places in itertools.combinations(range(11), 2):
            columns = TWELVE[:9]
            for place in places:
                columns.insert(place, ("double", "int", place, 0, ""))
            self.assert_invalid(columns, ["columna"])

    def test_names(self):
        for name in ("a", "z", "abcdefghijkl", "int", "count"):
            self.assertEqual(make_form([column(name)], [name])[1], (name,))
        for name in ("", "A", "aB", "a1", "1", "a b", " ", "a-", "a_", "abcdefghijklm", "at:", "~"):
            with self.subTest(name):
                self.assert_invalid_anywhere(column(name))

    def test_kinds(self):
        for kind in KINDS:
            form = make_form([column(), column("b", kind, DEFAULTS[kind])], ["a"])
            self.assertEqual(form[0][1], ("b", kind, DEFAULTS[kind], 0, ""))
        for kind in ("", "?", "Int", "int??", "texts", "tex", "int ", " int", "truth", "none", "INT?"):
            for default in (0, "", None):
                with self.subTest(kind, default=default):
                    self.assert_invalid_anywhere(column("b", kind, default))

    def test_defaults(self):
        accepted = {
            "int": [0, -1, 7, 10 ** 60 - 1, 1 - 10 ** 60],
            "int?": [0, -1, 7, 10 ** 60 - 1, None],
            "text": ["", "0", "int", "~" * 60],
            "text?": ["", "0", "int", "~" * 60, None],
        }
        for kind in KINDS:
            for default in accepted[kind]:
                form = make_form([column(), column("b", kind, default)], ["a"])
                self.assertEqual(form[0][1], ("b", kind, default, 0, ""))
            for default in (0, -1, 7, "", "0", "int", None):
                if default not in accepted[kind]:
                    with self.subTest(kind, default=default):
                        self.assert_invalid_anywhere(column("b", kind, default))

    def test_unique(self):
        for unique in (0, 1):
            self.assertEqual(make_form([column(unique=unique)], ["a"])[0][0][3], unique)
        for unique in (-1, 2, 3, 10, -2):
            with self.subTest(unique):
                self.assert_invalid_anywhere(column("b", unique=unique))

    def test_links(self):
        for link in ("", "a", "people", "abcdefghijkl"):
            self.assertEqual(make_form([column(link=link)], ["a"])[0][0][4], link)
        for link in (" ", "A", "a1", "a b", "abcdefghijklm", "people ", "0"):
            with self.subTest(link):
                self.assert_invalid_anywhere(column("b", link=link))

    def test_keys(self):
        names = ["code", "id"]
        for key in (["code"], ["id"], ["code", "id"], ["id", "code"]):
            self.assertEqual(make_form(FOUR, key)[1], tuple(key))
        for key in ([], ["code", "code"], ["id", "id"], ["code", "id", "code"], ["id", "id", "id"]):
            self.assert_invalid(FOUR, key)
        self.assert_invalid(TWELVE, ["columna", "columnb", "columnc"])
        self.assert_invalid(TWELVE, ["columna", "columnb", "columnc", "columnd"])
        for unknown in ("x", "", "cod", "codes", "Id", "note ", "int", "0"):
            self.assert_invalid(FOUR, [unknown])
            for name in names:
                self.assert_invalid(FOUR, [unknown, name])
                self.assert_invalid(FOUR, [name, unknown])

    def test_keys_without_none(self):
        for name in ("note", "owner"):
            self.assert_invalid(FOUR, [name])
            self.assert_invalid(FOUR, [name, "id"])
            self.assert_invalid(FOUR, ["id", name])
        self.assert_invalid(FOUR, ["note", "owner"])


class AskFormTest(unittest.TestCase):
    def test_find_column(self):
        form = make_form(FOUR, ["id"])
        for one in FOUR:
            self.assertEqual(find_column(form, one[0]), one)
        for name in ("", "x", "cod", "codes", "int", "people", "Id", "no such column", "~" * 60):
            self.assertIsNone(find_column(form, name))
        form = make_form(TWELVE, ["columnc"])
        for one in TWELVE:
            self.assertEqual(find_column(form, one[0]), one)

    def test_column_names(self):
        self.assertEqual(column_names(make_form(FOUR[::-1], ["id"])), ("code", "id", "note", "owner"))
        self.assertEqual(column_names(make_form([column()], ["a"])), ("a",))
        self.assertEqual(column_names(make_form(TWELVE, ["columna"])), tuple(one[0] for one in TWELVE))

    def test_key_signature(self):
        self.assertEqual(key_signature(make_form(FOUR, ["id"])), (("id", "int"),))
        self.assertEqual(key_signature(make_form(FOUR, ["code"])), (("code", "text"),))
        self.assertEqual(key_signature(make_form(FOUR, ["code", "id"])), (("code", "text"), ("id", "int")))
        self.assertEqual(key_signature(make_form(FOUR, ["id", "code"])), (("id", "int"), ("code", "text")))


class FitsTest(unittest.TestCase):
    def test_rows(self):
        form = make_form(FOUR, ["id"])
        for row in (("k", 1, None, None), ("", -1, "", 0), ("~" * 60, 10 ** 60 - 1, "x", 7)):
            self.assertIs(fits(form, row), True)

    def test_lengths(self):
        form = make_form(FOUR, ["id"])
        row = ("k", 1, None, None)
        for length in range(4):
            self.assertIs(fits(form, row[:length]), False)
        self.assertIs(fits(form, row + (None,)), False)
        self.assertIs(fits(form, row + row), False)
        single = make_form([column()], ["a"])
        self.assertIs(fits(single, (1,)), True)
        self.assertIs(fits(single, ()), False)
        self.assertIs(fits(single, (1, 1)), False)

    def test_a_wrong_value_at_any_place(self):
        form = make_form(FOUR, ["id"])
        row = ("k", 1, "n", 7)
        self.assertIs(fits(form, row), True)
        wrong = [(0, 5), (0, None), (1, "1"), (1, None), (2, 0), (3, ""), (3, "7")]
        for place, value in wrong:
            with self.subTest(place, value=value):
                self.assertIs(fits(form, row[:place] + (value,) + row[place + 1:]), False)

    def test_each_kind(self):
        fitting = {"int": [3], "int?": [3, None], "text": ["3"], "text?": ["3", None]}
        for kind in KINDS:
            form = make_form([column(), column("b", kind, DEFAULTS[kind])], ["a"])
            for value in (None, 3, "3"):
                with self.subTest(kind, value=value):
                    self.assertIs(fits(form, (0, value)), value in fitting[kind])

    def test_twelve_columns(self):
        form = make_form(TWELVE, ["columna"])
        row = tuple(range(12))
        self.assertIs(fits(form, row), True)
        for place in range(12):
            self.assertIs(fits(form, row[:place] + ("x",) + row[place + 1:]), False)
            self.assertIs(fits(form, row[:place] + (None,) + row[place + 1:]), False)
        self.assertIs(fits(form, row[:11]), False)
        self.assertIs(fits(form, row + (12,)), False)


class SplitAndJoinTest(unittest.TestCase):
    def assert_splits(self, form, row, key, rest):
        self.assertEqual(split_row(form, row), (key, rest))
        self.assertIs(type(split_row(form, row)), tuple)
        self.assertEqual(join_row(form, key, rest), row)

    def test_keys_of_one_column(self):
        row = ("k", 1, None, 7)
        self.assert_splits(make_form(FOUR, ["code"]), row, ("k",), (1, None, 7))
        self.assert_splits(make_form(FOUR, ["id"]), row, (1,), ("k", None, 7))

    def test_keys_of_two_columns(self):
        row = ("k", 1, None, 7)
        self.assert_splits(make_form(FOUR, ["code", "id"]), row, ("k", 1), (None, 7))
        self.assert_splits(make_form(FOUR, ["id", "code"]), row, (1, "k"), (None, 7))

    def test_keys_of_any_columns(self):
        form_columns = [(name, "int", 0, 0, "") for name in "abcde"]
        row = (10, 11, 12, 13, 14)
        for first, second in itertools.permutations(range(5), 2):
            form = make_form(form_columns, ["abcde"[first], "abcde"[second]])
            rest = tuple(value for place, value in enumerate(row) if place not in (first, second))
            self.assert_splits(form, row, (row[first], row[second]), rest)
        for place in range(5):
            form = make_form(form_columns, ["abcde"[place]])
            self.assert_splits(form, row, (row[place],), row[:place] + row[place + 1:])

    def test_all_columns_in_the_key(self):
        self.assert_splits(make_form([column()], ["a"]), (4,), (4,), ())
        both = [column("a"), column("b", "text", "")]
        self.assert_splits(make_form(both, ["a", "b"]), (4, "x"), (4, "x"), ())
        self.assert_splits(make_form(both, ["b", "a"]), (4, "x"), ("x", 4), ())

    def test_example(self):
        form = make_form([("price", "int?", None, 0, ""), ("code", "text", "", 0, "")], ["code"])
        self.assert_splits(form, ("k7", 12), ("k7",), (12,))


class ReshapeTest(unittest.TestCase):
    def test_same_form(self):
        form = make_form(FOUR, ["id"])
        self.assertEqual(reshape(form, form, ("k", 1, None, 7)), ("k", 1, None, 7))

    def test_missing_and_new_columns(self):
        old = make_form([column("a"), column("c"), column("d", "text", "")], ["a"])
        added = [column("b", "int", 5), column("e", "text?", None)]
        new = make_form([column("a"), column("d", "text", "w")] + added, ["a"])
        self.assertEqual(reshape(old, new, (1, 2, "z")), (1, 5, "z", None))
        self.assertEqual(reshape(new, old, (1, 2, "z", "y")), (1, 0, "z"))

    def test_other_order(self):
        old = make_form([column("b"), column("c"), column("d")], ["b"])
        new = make_form([column("a", default=9), column("c"), column("d"), column("e", default=8)], ["d"])
        self.assertEqual(reshape(old, new, (1, 2, 3)), (9, 2, 3, 8))

    def test_nothing_in_common(self):
        old = make_form([column("a")], ["a"])
        new = make_form([column("b", "text", "q"), column("c", "int?", 4)], ["b"])
        self.assertEqual(reshape(old, new, (1,)), ("q", 4))

    def test_each_pair_of_kinds(self):
        values = {"int": [0, 3], "int?": [0, 3, None], "text": ["", "3"], "text?": ["", "3", None]}
        defaults = {"int": [8], "int?": [8, None], "text": ["d"], "text?": ["d", None]}
        for old_kind, new_kind in itertools.product(KINDS, KINDS):
            for value, default in itertools.product(values[old_kind], defaults[new_kind]):
                old = make_form([column("id"), column("v", old_kind, values[old_kind][0])], ["id"])
                new = make_form([column("id"), column("v", new_kind, default)], ["id"])
                kept = old_kind[:3] == new_kind[:3] and (value is not None or new_kind[-1] == "?")
                with self.subTest(old_kind, new_kind=new_kind, value=value, default=default):
                    self.assertEqual(reshape(old, new, (1, value)), (1, value if kept else default))

    def test_default_of_the_old_form_does_not_count(self):
        old = make_form([column("a"), column("b", "int?", 3)], ["a"])
        new = make_form([column("a"), column("b", "int", 4)], ["a"])
        self.assertEqual(reshape(old, new, (1, 3)), (1, 3))
        self.assertEqual(reshape(old, new, (1, None)), (1, 4))

    def test_unique_and_link_do_not_count(self):
        old = make_form([column("a"), column("b", "int", 3, 1, "x")], ["a"])
        new = make_form([column("a"), column("b", "int", 4, 0, "y")], ["b"])
        self.assertEqual(reshape(old, new, (1, 2)), (1, 2))

    def test_example(self):
        old = make_form([("a", "int", 0, 0, ""), ("b", "int?", None, 0, "")], ["a"])
        new = make_form([("a", "int", 0, 0, ""), ("b", "int", 5, 0, ""), ("c", "text", "x", 0, "")], ["a"])
        self.assertEqual(reshape(old, new, (1, None)), (1, 5, "x"))


if __name__ == "__main__":
    unittest.main()
