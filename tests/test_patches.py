"""Points 9, 22, 23 and 24: patches."""

import random
import unittest

from tests.support import STAFF, new_chunks
from versiontables.chunks import Chunks
from versiontables.errors import MissingChunk, PatchMismatch
from versiontables.forms import key_signature, make_form, reshape, split_row
from versiontables.patches import apply_patch, diff
from versiontables.states import plain_tables, write_state
from versiontables.tables import write_rows


def columns(*names):
    return [(name, "int", 0, 0, "") for name in names]


# Forms with the same key signature, and others.
PLAIN = make_form(columns("id", "v"), ["id"])
WIDER = make_form(columns("id", "v") + [("w", "text", "x", 0, "")], ["id"])
MAYBE = make_form(columns("id") + [("v", "int?", None, 0, "")], ["id"])
WORDS = make_form(columns("id") + [("v", "text", "d", 0, "")], ["id"])
STRICT = make_form([("id", "int", 5, 1, "t"), ("v", "int", 0, 1, "")], ["id"])
DEFAULT = make_form(columns("id") + [("v", "int", 1, 0, "")], ["id"])
UNIQUE = make_form(columns("id") + [("v", "int", 0, 1, "")], ["id"])
LINKED = make_form(columns("id") + [("v", "int", 0, 0, "t")], ["id"])
OTHER_KEY = make_form(columns("id", "v"), ["v"])
TWO_KEYS = make_form(columns("id", "v"), ["id", "v"])
TURNED_KEYS = make_form(columns("id", "v"), ["v", "id"])
TEXT_KEY = make_form([("id", "text", "", 0, ""), ("v", "int", 0, 0, "")], ["id"])
SAME_KEY = [PLAIN, WIDER, MAYBE, WORDS, STRICT, DEFAULT, UNIQUE, LINKED]
FORMS = SAME_KEY + [OTHER_KEY, TWO_KEYS, TURNED_KEYS, TEXT_KEY]


def write(chunks, tables):
    """The address of the state with these tables, a dict from names to pairs (form, rows)."""
    triples = [(name, form, write_rows(chunks, form, rows)) for name, (form, rows) in tables.items()]
    return write_state(chunks, triples)


def added(name, form, rows):
    """The steps that add a table with these rows, which are in order."""
    return [("create", name, form)] + [("row", name, None, row) for row in rows]


def expected(first, second):
    """The patch from one dict of tables to another, as point 23 tells."""
    patch = []
    for name in sorted(set(first) | set(second)):
        if name not in second:
            patch.append(("drop", name))
            continue
        form, rows = second[name]
        wanted = {split_row(form, row)[0]: row for row in rows}
        if name not in first or key_signature(first[name][0]) != key_signature(form):
            patch += [("drop", name)] * (name in first) + added(name, form, [wanted[key] for key in sorted(wanted)])
            continue
        old_form, old_rows = first[name]
        old_rows = [reshape(old_form, form, row) for row in old_rows]
        given = {split_row(form, row)[0]: row for row in old_rows}
        patch += [("form", name, form)] * (old_form != form)
        for key in sorted(set(wanted) | set(given)):
            if wanted.get(key) != given.get(key):
                patch.append(("row", name, given.get(key), wanted.get(key)))
    return patch


def random_row(rng, form):
    pools = {"int": [0, 1, 2], "int?": [0, 1, None], "text": ["x", "y", "d"]}
    return tuple(rng.choice(pools[column[1]]) for column in form[0])


def random_tables(rng):
    tables = {}
    for name in rng.sample(["a", "b", "ba", "c"], rng.randrange(5)):
        form = rng.choice(FORMS)
        rows = {}
        for _ in range(rng.randrange(6)):
            row = random_row(rng, form)
            rows[split_row(form, row)[0]] = row
        tables[name] = (form, list(rows.values()))
    return tables


class DiffTest(unittest.TestCase):
    def assert_patch(self, first, second, wanted):
        chunks = new_chunks()
        one = write(chunks, first)
        two = write(chunks, second)
        self.assertEqual(expected(first, second), wanted)
        self.assertEqual(diff(chunks, one, two), wanted)
        self.assertEqual(apply_patch(chunks, one, wanted), two)

    def test_example(self):
        form = make_form([("id", "int", 0, 0, ""), ("name", "text", "", 0, "")], ["id"])
        self.assert_patch(
            {"t": (form, [(1, "a"), (2, "b")])},
            {"t": (form, [(2, "c"), (3, "d")])},
            [("row", "t", (1, "a"), None), ("row", "t", (2, "b"), (2, "c")), ("row", "t", None, (3, "d"))],
        )

    def test_equal_states(self):
        for tables in ({}, {"t": (PLAIN, [(1, 2)])}, {"t": (PLAIN, []), "u": (WIDER, [(1, 2, "x")])}):
            chunks = new_chunks()
            state = write(chunks, tables)
            before = chunks.reads
            self.assertEqual(diff(chunks, state, state), [])
            self.assertEqual(chunks.reads, before)
            self.assertEqual(diff(Chunks(chunks.book), state, state), [])
            self.assertEqual(apply_patch(chunks, state, []), state)

    def test_a_table_that_stays(self):
        same = (PLAIN, [(1, 2), (3, 4)])
        self.assert_patch({"a": same, "b": same}, {"a": same}, [("drop", "b")])
        self.assert_patch({"b": same, "a": (PLAIN, [])}, {"b": same}, [("drop", "a")])

    def test_a_table_that_is_dropped(self):
        self.assert_patch({"t": (PLAIN, [])}, {}, [("drop", "t")])
        self.assert_patch({"t": (PLAIN, [(1, 2), (3, 4)])}, {}, [("drop", "t")])

    def test_a_table_that_is_created(self):
        self.assert_patch({}, {"t": (PLAIN, [])}, [("create", "t", PLAIN)])
        rows = [(-1, 9), (2, 8), (10, 7)]
        self.assert_patch({}, {"t": (PLAIN, rows[::-1])}, added("t", PLAIN, rows))

    def test_other_key_signatures(self):
        rows = [(1, 5), (2, 4)]
        for first in (PLAIN, OTHER_KEY, TWO_KEYS, TURNED_KEYS):
            for second in (PLAIN, OTHER_KEY, TWO_KEYS, TURNED_KEYS):
                if first != second:
                    order = rows if second in (PLAIN, TWO_KEYS) else rows[::-1]
                    wanted = [("drop", "t")] + added("t", second, order)
                    self.assert_patch({"t": (first, rows)}, {"t": (second, rows)}, wanted)
        wanted = [("drop", "t")] + added("t", TEXT_KEY, [("1", 5)])
        self.assert_patch({"t": (PLAIN, [(1, 5)])}, {"t": (TEXT_KEY, [("1", 5)])}, wanted)
        self.assert_patch({"t": (PLAIN, [])}, {"t": (TEXT_KEY, [])}, [("drop", "t"), ("create", "t", TEXT_KEY)])

    def test_other_forms(self):
        rows = [(1, 5), (2, 0)]
        for first in (PLAIN, STRICT, DEFAULT, UNIQUE, LINKED, MAYBE):
            for second in (PLAIN, STRICT, DEFAULT, UNIQUE, LINKED, MAYBE):
                if first != second:
                    self.assert_patch({"t": (first, rows)}, {"t": (second, rows)}, [("form", "t", second)])
        wider = [(1, 5, "x"), (2, 0, "x")]
        self.assert_patch({"t": (PLAIN, rows)}, {"t": (WIDER, wider)}, [("form", "t", WIDER)])
        self.assert_patch({"t": (WIDER, wider)}, {"t": (PLAIN, rows)}, [("form", "t", PLAIN)])
        self.assert_patch({"t": (PLAIN, [])}, {"t": (WIDER, [])}, [("form", "t", WIDER)])

    def test_other_forms_and_other_rows(self):
        self.assert_patch(
            {"t": (PLAIN, [(1, 5), (2, 6), (3, 7)])},
            {"t": (WIDER, [(1, 5, "x"), (2, 6, "y"), (4, 7, "x")])},
            [
                ("form", "t", WIDER),
                ("row", "t", (2, 6, "x"), (2, 6, "y")),
                ("row", "t", (3, 7, "x"), None),
                ("row", "t", None, (4, 7, "x")),
            ],
        )
        self.assert_patch(
            {"t": (MAYBE, [(1, None), (2, 6), (3, None)])},
            {"t": (PLAIN, [(1, 0), (2, 6), (3, 1)])},
            [("form", "t", PLAIN), ("row", "t", (3, 0), (3, 1))],
        )
        self.assert_patch(
            {"t": (PLAIN, [(1, 6)])},
            {"t": (WORDS, [(1, "6")])},
            [("form", "t", WORDS), ("row", "t", (1, "d"), (1, "6"))],
        )

    def test_order_of_the_rows(self):
        first = [(number, 0) for number in (-11, 2, 9, 10, 100)]
        second = [(number, 0) for number in (-2, 1, 9, 11, 99)]
        steps = [("row", "t", row, None) for row in first if row not in second]
        steps += [("row", "t", None, row) for row in second if row not in first]
        steps.sort(key=lambda step: (step[2] or step[3])[0])
        self.assertEqual(len(steps), 8)
        self.assert_patch({"t": (PLAIN, first)}, {"t": (PLAIN, second)}, steps)
        # The key of these rows is the pair of v and id.
        first = [(9, 1), (1, 2)]
        wanted = [("row", "t", (9, 1), None), ("row", "t", None, (3, 2)), ("row", "t", None, (0, 3))]
        self.assert_patch({"t": (TURNED_KEYS, first)}, {"t": (TURNED_KEYS, [(0, 3), (3, 2), (1, 2)])}, wanted)

    def test_order_of_the_tables(self):
        self.assert_patch(
            {"b": (PLAIN, []), "d": (PLAIN, [(1, 1)]), "ab": (PLAIN, [(1, 1)]), "e": (PLAIN, [])},
            {"d": (PLAIN, [(1, 2)]), "c": (PLAIN, [(1, 1)]), "a": (PLAIN, []), "ab": (WIDER, []), "e": (TWO_KEYS, [])},
            [
                ("create", "a", PLAIN),
                ("form", "ab", WIDER),
                ("row", "ab", (1, 1, "x"), None),
                ("drop", "b"),
                ("create", "c", PLAIN),
                ("row", "c", None, (1, 1)),
                ("row", "d", (1, 1), (1, 2)),
                ("drop", "e"),
                ("create", "e", TWO_KEYS),
            ],
        )

    def test_large_tables(self):
        rows = [(number, number % 7) for number in range(500)]
        changed = [(number, 8 if number in (3, 250) else number % 7) for number in range(-5, 490) if number != 77]
        chunks = new_chunks()
        one = write(chunks, {"t": (PLAIN, rows)})
        two = write(chunks, {"t": (PLAIN, changed)})
        for first, second, patch in (
            (one, two, expected({"t": (PLAIN, rows)}, {"t": (PLAIN, changed)})),
            (two, one, expected({"t": (PLAIN, changed)}, {"t": (PLAIN, rows)})),
        ):
            self.assertEqual(diff(chunks, first, second), patch)
            self.assertEqual(apply_patch(chunks, first, patch), second)

    def test_random_states(self):
        for seed in range(500):
            rng = random.Random(seed)
            first = random_tables(rng)
            second = random_tables(rng)
            if seed % 3 == 0:
                second = {name: first.get(name, second[name]) for name in second}
            self.assert_patch(first, second, expected(first, second))

    def test_the_list_belongs_to_the_caller(self):
        chunks = new_chunks()
        one = write(chunks, {"t": (PLAIN, [(1, 2)])})
        two = write(chunks, {"t": (PLAIN, [(1, 3)])})
        diff(chunks, one, two).clear()
        self.assertEqual(diff(chunks, one, two), [("row", "t", (1, 2), (1, 3))])
        diff(chunks, one, one).append("x")
        self.assertEqual(diff(chunks, one, one), [])

    def test_chunks_that_are_missing(self):
        chunks = new_chunks()
        roots = [write_rows(chunks, PLAIN, [(1, number)]) for number in (5, 6)]
        states = [write_state(chunks, [("t", PLAIN, root)]) for root in roots]
        for address in roots + states:
            text = chunks.get(address)
            chunks.drop(address)
            with self.assertRaises(MissingChunk) as caught:
                diff(chunks, states[0], states[1])
            self.assertEqual(caught.exception.address, address)
            if address in (roots[0], states[0]):
                with self.assertRaises(MissingChunk) as caught:
                    apply_patch(chunks, states[0], [("row", "t", (1, 5), (1, 6))])
                self.assertEqual(caught.exception.address, address)
            chunks.put(text)
        self.assertEqual(diff(chunks, states[0], states[1]), [("row", "t", (1, 5), (1, 6))])


class ApplyTest(unittest.TestCase):
    def setUp(self):
        self.chunks = new_chunks()
        # The columns of the table staff, in order: age, id, name.
        self.tables = {
            "pairs": (TURNED_KEYS, [(1, 2), (3, 4)]),
            "staff": (STAFF, [(None, 1, "ann"), (30, 2, "bob")]),
            "t": (PLAIN, [(1, 5), (2, 6)]),
        }
        self.state = write(self.chunks, self.tables)
        self.plain = plain_tables(self.chunks, self.state)

    def assert_leads_to(self, patch, changes):
        """The patch changes these tables; None stands for a table that is not there any more."""
        given = list(patch)
        wanted = {name: table for name, table in {**self.tables, **changes}.items() if table is not None}
        self.assertEqual(apply_patch(self.chunks, self.state, given), write(self.chunks, wanted))
        self.assertEqual(given, patch)
        self.assertEqual(plain_tables(self.chunks, self.state), self.plain)

    def assert_mismatch(self, patch):
        """The patch does not fit, wherever else it stands among steps that do."""
        fitting = [("row", "t", (1, 5), (1, 7)), ("row", "t", (1, 7), (1, 5))]
        for steps in (patch, fitting + patch, patch + fitting, [("drop", "pairs")] + patch):
            if steps[:1] == [("drop", "pairs")] and any(step[1] == "pairs" for step in patch):
                continue
            given = list(steps)
            with self.subTest(steps):
                with self.assertRaises(PatchMismatch):
                    apply_patch(self.chunks, self.state, given)
                self.assertEqual(given, steps)
                self.assertEqual(plain_tables(self.chunks, self.state), self.plain)

    def test_single_steps(self):
        self.assert_leads_to([], {})
        self.assert_leads_to([("drop", "t")], {"t": None})
        self.assert_leads_to([("create", "u", WIDER)], {"u": (WIDER, [])})
        self.assert_leads_to([("form", "t", WIDER)], {"t": (WIDER, [(1, 5, "x"), (2, 6, "x")])})
        self.assert_leads_to([("form", "t", WORDS)], {"t": (WORDS, [(1, "d"), (2, "d")])})
        self.assert_leads_to([("form", "t", STRICT)], {"t": (STRICT, [(1, 5), (2, 6)])})
        self.assert_leads_to([("form", "t", PLAIN)], {})
        self.assert_leads_to([("row", "t", None, (3, 7))], {"t": (PLAIN, [(1, 5), (2, 6), (3, 7)])})
        self.assert_leads_to([("row", "t", (1, 5), None)], {"t": (PLAIN, [(2, 6)])})
        self.assert_leads_to([("row", "t", (1, 5), (1, 8))], {"t": (PLAIN, [(1, 8), (2, 6)])})
        self.assert_leads_to([("row", "t", (1, 5), (1, 5))], {})

    def test_steps_see_the_steps_before(self):
        self.assert_leads_to([("drop", "t"), ("create", "t", PLAIN)], {"t": (PLAIN, [])})
        self.assert_leads_to([("create", "u", PLAIN), ("drop", "u")], {})
        self.assert_leads_to([("drop", "t")] + added("t", TEXT_KEY, [("1", 5)]), {"t": (TEXT_KEY, [("1", 5)])})
        self.assert_leads_to(added("u", PLAIN, [(1, 1), (0, 1)]), {"u": (PLAIN, [(0, 1), (1, 1)])})
        steps = [("row", "t", (1, 5), None), ("row", "t", None, (1, 5))]
        self.assert_leads_to(steps, {})
        steps = [("row", "t", (1, 5), (1, 7)), ("row", "t", (1, 7), (1, 9)), ("row", "t", (2, 6), None)]
        self.assert_leads_to(steps, {"t": (PLAIN, [(1, 9)])})
        steps = [("row", "t", None, (3, 1)), ("row", "t", (3, 1), None)]
        self.assert_leads_to(steps, {})
        steps = [
            ("row", "t", (1, 5), (1, 7)),
            ("form", "t", WIDER),
            ("row", "t", (1, 7, "x"), (1, 7, "y")),
            ("row", "t", (2, 6, "x"), None),
            ("form", "t", MAYBE),
            ("row", "t", None, (2, None)),
            ("form", "t", PLAIN),
            ("row", "t", (2, 0), (2, 1)),
        ]
        self.assert_leads_to(steps, {"t": (PLAIN, [(1, 7), (2, 1)])})

    def test_steps_in_any_order_of_tables_and_rows(self):
        steps = [
            ("row", "t", (2, 6), (2, 7)),
            ("row", "staff", (None, 1, "ann"), None),
            ("row", "t", None, (0, 0)),
            ("row", "pairs", (3, 4), None),
            ("row", "staff", None, (5, 9, "zoe")),
            ("row", "pairs", None, (2, 4)),
            ("row", "t", (1, 5), (1, 4)),
        ]
        wanted = {
            "t": (PLAIN, [(0, 0), (1, 4), (2, 7)]),
            "staff": (STAFF, [(30, 2, "bob"), (5, 9, "zoe")]),
            "pairs": (TURNED_KEYS, [(1, 2), (2, 4)]),
        }
        self.assert_leads_to(steps, wanted)

    def test_many_steps_in_any_order(self):
        rows = [(number, number % 7) for number in range(300)]
        changed = [(number, 8 if number % 5 == 0 else number % 7) for number in range(-9, 350) if number % 11]
        chunks = new_chunks()
        one = write(chunks, {"t": (PLAIN, rows)})
        two = write(chunks, {"t": (PLAIN, changed)})
        patch = expected({"t": (PLAIN, rows)}, {"t": (PLAIN, changed)})
        for seed in range(20):
            random.Random(seed).shuffle(patch)
            self.assertEqual(apply_patch(chunks, one, patch), two)

    def test_tables_that_are_not_there(self):
        for name in ("u", "a", "tt", "z"):
            self.assert_mismatch([("drop", name)])
            self.assert_mismatch([("form", name, PLAIN)])
            self.assert_mismatch([("row", name, None, (3, 3))])
            self.assert_mismatch([("row", name, (1, 5), (1, 6))])
            self.assert_mismatch([("row", name, (1, 5), None)])
        self.assert_mismatch([("drop", "t"), ("drop", "t")])
        self.assert_mismatch([("drop", "t"), ("form", "t", PLAIN)])
        self.assert_mismatch([("drop", "t"), ("row", "t", (1, 5), None)])
        self.assert_mismatch([("create", "u", PLAIN), ("drop", "u"), ("row", "u", None, (1, 1))])

    def test_tables_that_are_there(self):
        for name in ("t", "staff", "pairs"):
            self.assert_mismatch([("create", name, PLAIN)])
            self.assert_mismatch([("create", name, self.tables[name][0])])
        self.assert_mismatch([("create", "u", PLAIN), ("create", "u", PLAIN)])
        self.assert_mismatch([("drop", "t"), ("create", "t", PLAIN), ("create", "t", PLAIN)])

    def test_other_key_signatures(self):
        renamed = make_form(columns("ident", "v"), ["ident"])
        for form in (OTHER_KEY, TWO_KEYS, TURNED_KEYS, TEXT_KEY, renamed):
            self.assert_mismatch([("form", "t", form)])
            self.assert_mismatch([("form", "t", WIDER), ("form", "t", form)])
        for form in (PLAIN, OTHER_KEY, TWO_KEYS):
            self.assert_mismatch([("form", "pairs", form)])
        self.assert_mismatch([("create", "u", TEXT_KEY), ("form", "u", PLAIN)])

    def test_tuples_that_are_no_rows(self):
        for wrong in ((), (1,), (1, 5, 5), (1, None), (1, "5"), ("1", 5), (None, 5)):
            self.assert_mismatch([("row", "t", wrong, None)])
            self.assert_mismatch([("row", "t", None, wrong)])
            self.assert_mismatch([("row", "t", wrong, (1, 6))])
            self.assert_mismatch([("row", "t", (1, 5), wrong)])
            self.assert_mismatch([("row", "t", wrong, wrong)])
        for wrong in ((3,), (3, 5, 5), (3, None), (3, "5"), ("3", 5), (None, 5)):
            self.assert_mismatch([("row", "t", None, wrong)])

    def test_rows_of_another_form(self):
        self.assert_mismatch([("form", "t", WIDER), ("row", "t", (1, 5), None)])
        self.assert_mismatch([("form", "t", WIDER), ("row", "t", None, (3, 5))])
        self.assert_mismatch([("form", "t", WORDS), ("row", "t", None, (3, 5))])
        self.assert_mismatch([("row", "t", (1, 5, "x"), None), ("form", "t", WIDER)])
        self.assert_mismatch([("create", "u", TEXT_KEY), ("row", "u", None, (1, 1))])

    def test_rows_with_different_keys(self):
        self.assert_mismatch([("row", "t", (1, 5), (2, 5))])
        self.assert_mismatch([("row", "t", (1, 5), (3, 5))])
        self.assert_mismatch([("row", "t", (3, 5), (1, 5))])
        self.assert_mismatch([("row", "pairs", (1, 2), (1, 3))])
        self.assert_mismatch([("row", "pairs", (1, 2), (2, 2))])
        self.assert_mismatch([("row", "pairs", (1, 2), (2, 1))])

    def test_rows_that_the_table_does_not_have(self):
        self.assert_mismatch([("row", "t", (3, 5), None)])
        self.assert_mismatch([("row", "t", (3, 5), (3, 6))])
        self.assert_mismatch([("row", "t", (1, 6), None)])
        self.assert_mismatch([("row", "t", (1, 6), (1, 7))])
        self.assert_mismatch([("row", "t", (1, 6), (1, 5))])
        self.assert_mismatch([("row", "t", (1, 6), (1, 6))])
        self.assert_mismatch([("row", "staff", (0, 1, "ann"), None)])
        self.assert_mismatch([("row", "pairs", (2, 1), None)])
        self.assert_mismatch([("row", "t", (1, 5), None), ("row", "t", (1, 5), None)])
        self.assert_mismatch([("row", "t", (1, 5), (1, 7)), ("row", "t", (1, 5), None)])
        self.assert_mismatch([("drop", "t"), ("create", "t", PLAIN), ("row", "t", (1, 5), None)])

    def test_rows_that_the_table_has(self):
        self.assert_mismatch([("row", "t", None, (1, 5))])
        self.assert_mismatch([("row", "t", None, (1, 7))])
        self.assert_mismatch([("row", "t", None, (3, 7)), ("row", "t", None, (3, 7))])
        self.assert_mismatch([("row", "t", None, (3, 7)), ("row", "t", None, (3, 8))])
        self.assert_mismatch([("row", "pairs", None, (1, 2))])
        self.assert_mismatch([("form", "t", WIDER), ("row", "t", None, (1, 5, "x"))])

    def test_a_step_that_does_not_fit_among_others(self):
        steps = [
            ("create", "u", PLAIN),
            ("row", "t", (1, 5), (1, 7)),
            ("form", "staff", STAFF),
            ("drop", "pairs"),
        ]
        for place in range(len(steps) + 1):
            self.assert_mismatch(steps[:place] + [("row", "t", (2, 5), None)] + steps[place:])
        self.assert_leads_to(steps, {"u": (PLAIN, []), "t": (PLAIN, [(1, 7), (2, 6)]), "pairs": None})

    def test_to_the_empty_state_and_back(self):
        empty = write_state(self.chunks, [])
        patch = diff(self.chunks, self.state, empty)
        self.assertEqual(patch, [("drop", "pairs"), ("drop", "staff"), ("drop", "t")])
        self.assertEqual(apply_patch(self.chunks, self.state, patch), empty)
        with self.assertRaises(PatchMismatch):
            apply_patch(self.chunks, empty, patch)
        patch = diff(self.chunks, empty, self.state)
        self.assertEqual(apply_patch(self.chunks, empty, patch), self.state)
        with self.assertRaises(PatchMismatch):
            apply_patch(self.chunks, self.state, patch)

    def test_two_patches_one_after_the_other(self):
        for seed in range(300):
            rng = random.Random(seed)
            chunks = new_chunks()
            states = [write(chunks, random_tables(rng)) for _ in range(3)]
            first = diff(chunks, states[0], states[1])
            second = diff(chunks, states[1], states[2])
            patches = [list(first), list(second)]
            self.assertEqual(apply_patch(chunks, apply_patch(chunks, states[0], first), second), states[2])
            self.assertEqual(apply_patch(chunks, states[0], first + second), states[2])
            self.assertEqual([first, second], patches)


if __name__ == "__main__":
    unittest.main()
