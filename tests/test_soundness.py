"""Point 21: sound states."""

import random
import unittest

from tests.support import new_chunks
from versiontables.errors import MissingChunk
from versiontables.forms import key_signature, make_form, split_row
from versiontables.soundness import violations
from versiontables.states import write_state
from versiontables.tables import write_rows


def key_column(name="id", kind="int"):
    return (name, kind, 0 if kind == "int" else "", 0, "")


def found_in(tables):
    """The violations of a state with these tables, each a triple (name, form, rows)."""
    chunks = new_chunks()
    return violations(chunks, state_of(chunks, tables))


def state_of(chunks, tables):
    return write_state(chunks, [(name, form, write_rows(chunks, form, rows)) for name, form, rows in tables])


def expected(tables):
    """The violations, as point 21 tells."""
    forms = {name: form for name, form, _ in tables}
    keys = {name: [split_row(form, row)[0] for row in rows] for name, form, rows in tables}
    found = []
    for name, form, rows in sorted(tables):
        rows = sorted(rows, key=lambda row, form=form: split_row(form, row)[0])
        for place, (column, kind, _, unique, link) in enumerate(form[0]):
            values = [row[place] for row in rows if row[place] is not None]
            if unique:
                found += [("unique", name, column, value) for value in sorted(set(values)) if values.count(value) > 1]
            if not link:
                continue
            signature = key_signature(forms[link]) if link in forms else ()
            if len(signature) != 1 or signature[0][1] != kind.strip("?"):
                found.append(("target", name, column))
                continue
            for row in rows:
                if row[place] is not None and (row[place],) not in keys[link]:
                    found.append(("link", name, column, split_row(form, row)[0]))
    return found


class UniqueTest(unittest.TestCase):
    def form(self, kind, unique):
        return make_form([key_column(), ("v", kind, {"int": 0, "text": ""}.get(kind), unique, "")], ["id"])

    def test_sound_tables(self):
        self.assertEqual(found_in([]), [])
        self.assertEqual(found_in([("t", self.form("int", 1), [])]), [])
        self.assertEqual(found_in([("t", self.form("int", 1), [(1, 5)])]), [])
        self.assertEqual(found_in([("t", self.form("int", 1), [(1, 5), (2, 6), (3, 1), (5, 2)])]), [])
        self.assertEqual(found_in([("t", self.form("text?", 1), [(1, ""), (2, "a"), (3, "A"), (4, None)])]), [])

    def test_values_that_stand_twice(self):
        rows = [(1, 5), (2, 7), (3, 5)]
        self.assertEqual(found_in([("t", self.form("int", 1), rows)]), [("unique", "t", "v", 5)])
        self.assertEqual(found_in([("t", self.form("int?", 1), rows)]), [("unique", "t", "v", 5)])
        self.assertEqual(found_in([("t", self.form("int", 0), rows)]), [])
        self.assertEqual(found_in([("t", self.form("int?", 0), rows)]), [])

    def test_zero_and_the_empty_text_count(self):
        self.assertEqual(found_in([("t", self.form("int?", 1), [(1, 0), (2, 0)])]), [("unique", "t", "v", 0)])
        self.assertEqual(found_in([("t", self.form("text?", 1), [(1, ""), (2, "")])]), [("unique", "t", "v", "")])

    def test_none_does_not_count(self):
        for kind in ("int?", "text?"):
            self.assertEqual(found_in([("t", self.form(kind, 1), [(1, None), (2, None), (3, None)])]), [])
        rows = [(1, None), (2, 4), (3, None), (4, 4)]
        self.assertEqual(found_in([("t", self.form("int?", 1), rows)]), [("unique", "t", "v", 4)])

    def test_each_value_once_in_ascending_order(self):
        rows = list(enumerate([9, 10, -3, 9, 9, -3, 8, 10, 2, 10, 10]))
        wanted = [("unique", "t", "v", value) for value in (-3, 9, 10)]
        self.assertEqual(found_in([("t", self.form("int", 1), rows)]), wanted)
        rows = list(enumerate(["b", "ab", "a", "Z", "b", "Z", "ab", "c"]))
        wanted = [("unique", "t", "v", value) for value in ("Z", "ab", "b")]
        self.assertEqual(found_in([("t", self.form("text", 1), rows)]), wanted)

    def test_a_column_of_a_key_of_two(self):
        form = make_form([("a", "int", 0, 1, ""), ("b", "int", 0, 1, "")], ["b", "a"])
        rows = [(1, 1), (2, 1), (3, 2), (3, 3)]
        self.assertEqual(found_in([("t", form, rows)]), [("unique", "t", "a", 3), ("unique", "t", "b", 1)])

    def test_two_tables_with_the_same_value(self):
        form = self.form("int", 1)
        self.assertEqual(found_in([("t", form, [(1, 5)]), ("u", form, [(1, 5)])]), [])


class TargetTest(unittest.TestCase):
    def form(self, kind, link="goal"):
        return make_form([key_column(), ("v", kind, {"int": 0, "text": ""}.get(kind), 0, link)], ["id"])

    def test_no_such_table(self):
        rows = {"int": [(1, 5), (2, 5)], "int?": [(1, None), (2, 5)]}
        rows.update({"text": [(1, "x")], "text?": [(1, "x"), (2, None)]})
        for kind in rows:
            self.assertEqual(found_in([("t", self.form(kind), rows[kind])]), [("target", "t", "v")])
            self.assertEqual(found_in([("t", self.form(kind), [])]), [("target", "t", "v")])
        goals = make_form([key_column()], ["id"])
        self.assertEqual(found_in([("t", self.form("int"), []), ("goals", goals, [])]), [("target", "t", "v")])

    def test_keys_that_suit_and_others(self):
        for key_kind in ("int", "text"):
            goal = make_form([key_column("k", key_kind), ("id", "int", 0, 0, "")], ["k"])
            for kind in ("int", "int?", "text", "text?"):
                wanted = [] if kind.strip("?") == key_kind else [("target", "t", "v")]
                self.assertEqual(found_in([("goal", goal, []), ("t", self.form(kind), [])]), wanted)

    def test_keys_of_two_columns(self):
        columns = [key_column("k"), key_column("m")]
        for key in (["k", "m"], ["m", "k"]):
            goal = make_form(columns, key)
            found = found_in([("goal", goal, [(5, 5)]), ("t", self.form("int"), [(1, 5), (2, 6)])])
            self.assertEqual(found, [("target", "t", "v")])

    def test_a_target_that_does_not_suit_hides_the_links(self):
        goal = make_form([key_column("k", "text")], ["k"])
        found = found_in([("goal", goal, [("5",)]), ("t", self.form("int"), [(1, 5), (2, 6)])])
        self.assertEqual(found, [("target", "t", "v")])

    def test_the_table_itself(self):
        self.assertEqual(found_in([("t", self.form("text?", "t"), [(1, "1")])]), [("target", "t", "v")])
        self.assertEqual(found_in([("t", self.form("int?", "t"), [])]), [])


class LinkTest(unittest.TestCase):
    def setUp(self):
        self.goal = make_form([key_column("k"), ("x", "int", 0, 0, "")], ["k"])
        self.form = make_form([key_column(), ("v", "int?", None, 0, "goal")], ["id"])

    def test_links(self):
        goals = ("goal", self.goal, [(1, 11), (2, 12), (0, 13)])
        self.assertEqual(found_in([goals, ("t", self.form, [(5, 1), (6, 2), (7, 0), (8, 1)])]), [])
        self.assertEqual(found_in([goals, ("t", self.form, [(5, None), (6, None)])]), [])
        found = found_in([goals, ("t", self.form, [(9, 11), (5, 3), (6, 2), (7, -1), (8, None)])])
        self.assertEqual(found, [("link", "t", "v", (5,)), ("link", "t", "v", (7,)), ("link", "t", "v", (9,))])
        found = found_in([("goal", self.goal, []), ("t", self.form, [(5, 0), (6, None)])])
        self.assertEqual(found, [("link", "t", "v", (5,))])

    def test_texts(self):
        goal = make_form([("a", "int", 0, 0, ""), key_column("k", "text")], ["k"])
        form = make_form([key_column("id", "text"), ("v", "text", "", 0, "goal")], ["id"])
        rows = [("b", "x"), ("a", ""), ("c", "X")]
        found = found_in([("goal", goal, [(1, "x")]), ("t", form, rows)])
        self.assertEqual(found, [("link", "t", "v", ("a",)), ("link", "t", "v", ("c",))])
        self.assertEqual(found_in([("goal", goal, [(1, "x"), (2, ""), (3, "X")]), ("t", form, rows)]), [])

    def test_keys_of_two_columns(self):
        form = make_form([("a", "int", 0, 0, "goal"), ("b", "int", 0, 0, "goal")], ["b", "a"])
        found = found_in([("goal", self.goal, [(1, 0)]), ("t", form, [(1, 2), (2, 1), (3, 0), (1, 1)])])
        wanted = [("link", "t", "a", (0, 3)), ("link", "t", "a", (1, 2))]
        wanted += [("link", "t", "b", (0, 3)), ("link", "t", "b", (2, 1))]
        self.assertEqual(found, wanted)

    def test_a_table_that_links_to_itself(self):
        form = make_form([key_column(), ("boss", "int?", None, 0, "staff")], ["id"])
        # The columns, in order: boss, id.
        self.assertEqual(found_in([("staff", form, [(9, 2), (None, 1)])]), [("link", "staff", "boss", (2,))])
        self.assertEqual(found_in([("staff", form, [(1, 2), (1, 1), (2, 3)])]), [])
        form = make_form([("id", "int", 0, 0, "staff")], ["id"])
        self.assertEqual(found_in([("staff", form, [(1,), (2,)])]), [])

    def test_links_in_a_circle(self):
        one = make_form([key_column(), ("v", "int?", None, 0, "b")], ["id"])
        two = make_form([key_column(), ("v", "int?", None, 0, "a")], ["id"])
        self.assertEqual(found_in([("a", one, [(1, 2)]), ("b", two, [(2, 1)])]), [])
        found = found_in([("b", two, [(2, 2)]), ("a", one, [(1, 1)])])
        self.assertEqual(found, [("link", "a", "v", (1,)), ("link", "b", "v", (2,))])


class OrderTest(unittest.TestCase):
    def test_tables_columns_and_sorts(self):
        form = make_form(
            [
                ("id", "int", 0, 0, ""),
                ("up", "int?", None, 1, "mm"),
                ("down", "text?", None, 1, "mm"),
                ("left", "int?", None, 1, "zz"),
            ],
            ["id"],
        )
        # The columns, in order: down, id, left, up.
        rows = [("b", 1, 7, 8), ("a", 2, 7, 8), ("b", 3, 6, None), ("a", 4, 6, 4)]

        def of_table(name):
            return [
                ("unique", name, "down", "a"),
                ("unique", name, "down", "b"),
                ("target", name, "down"),
                ("unique", name, "left", 6),
                ("unique", name, "left", 7),
                ("target", name, "left"),
                ("unique", name, "up", 8),
                ("link", name, "up", (1,)),
                ("link", name, "up", (2,)),
            ]

        tables = [("nn", form, rows), ("mm", form, rows), ("a", form, rows), ("aa", form, rows)]
        wanted = of_table("a") + of_table("aa") + of_table("mm") + of_table("nn")
        self.assertEqual(found_in(tables), wanted)
        self.assertEqual(expected(tables), wanted)

    def test_random_states(self):
        seen = set()
        for seed in range(300):
            rng = random.Random(seed)
            tables = [(name, *random_table(rng)) for name in rng.sample(["a", "b", "ba", "c"], rng.randrange(1, 5))]
            found = found_in(tables)
            self.assertEqual(found, expected(tables))
            seen.update(one[0] for one in found)
        self.assertEqual(seen, {"unique", "target", "link"})

    def test_the_list_belongs_to_the_caller(self):
        form = make_form([key_column(), ("v", "int", 0, 1, "x")], ["id"])
        chunks = new_chunks()
        state = state_of(chunks, [("t", form, [(1, 2), (2, 2)])])
        wanted = [("unique", "t", "v", 2), ("target", "t", "v")]
        found = violations(chunks, state)
        self.assertEqual(found, wanted)
        found.clear()
        self.assertEqual(violations(chunks, state), wanted)

    def test_chunks_that_are_missing(self):
        form = make_form([key_column(), ("v", "int", 0, 1, "t")], ["id"])
        chunks = new_chunks()
        rows = [(number, number) for number in range(3)]
        root = write_rows(chunks, form, rows)
        state = write_state(chunks, [("t", form, root)])
        for address in (state, root):
            text = chunks.get(address)
            chunks.drop(address)
            with self.assertRaises(MissingChunk) as caught:
                violations(chunks, state)
            self.assertEqual(caught.exception.address, address)
            chunks.put(text)
        self.assertEqual(violations(chunks, state), [])


def random_table(rng):
    """A form and rows of few values, so that many are the same."""
    values = {"int": range(4), "text": ["", "a", "b", "c"]}
    columns = []
    for name in rng.sample(["p", "q", "r", "s"], rng.randrange(2, 5)):
        kind = rng.choice(["int", "int?", "text", "text?"]) if columns else rng.choice(["int", "text"])
        default = None if kind[-1] == "?" else values[kind][0]
        columns.append((name, kind, default, rng.randrange(2), rng.choice(["", "a", "b", "ba", "c", "zz"])))
    keys = [column[0] for column in columns if column[1][-1] != "?"]
    key = rng.sample(keys, min(len(keys), rng.choice([1, 1, 1, 2])))
    form = make_form(columns, key)
    rows = {}
    for _ in range(rng.randrange(9)):
        row = []
        for column in form[0]:
            base = column[1].strip("?")
            row.append(rng.choice(list(values[base]) + [None] * (column[1] != base)))
        rows[split_row(form, tuple(row))[0]] = tuple(row)
    return form, list(rows.values())


if __name__ == "__main__":
    unittest.main()
