"""Points 25 and 28 to 31: merging states, and resolving conflicts."""

import itertools
import random
import unittest

from tests.support import new_chunks
from versiontables.chunks import Chunks
from versiontables.choices import lost_columns, merge_forms
from versiontables.errors import MissingChunk
from versiontables.forms import column_names, key_signature, make_form, reshape, split_row
from versiontables.merging import merge_row, merge_states, resolve_conflict
from versiontables.states import plain_tables, write_state
from versiontables.tables import write_rows
from versiontables.values import base_kind


def maybe(*names):
    return [(name, "int?", None, 0, "") for name in names]


ID = ("id", "int", 0, 0, "")
PLAIN = make_form([ID] + maybe("a", "b"), ["id"])
WIDER = make_form([ID, ("c", "text", "x", 0, "")] + maybe("a", "b"), ["id"])
NARROW = make_form([ID] + maybe("a"), ["id"])
WORDS = make_form([ID, ("b", "text", "w", 0, "")] + maybe("a"), ["id"])
STRICT = make_form([ID, ("b", "int", 5, 0, "")] + maybe("a"), ["id"])
UNIQUE = make_form([ID, ("b", "int?", None, 1, "")] + maybe("a"), ["id"])
TWO_KEYS = make_form([ID, ("a", "int", 0, 0, "")] + maybe("b"), ["a", "id"])
TEXT_KEY = make_form([("id", "text", "", 0, "")] + maybe("a", "b"), ["id"])
FORMS = [PLAIN, WIDER, NARROW, WORDS, STRICT, UNIQUE]


def write(chunks, tables):
    """The address of the state with these tables, a dict from names to pairs (form, rows)."""
    triples = [(name, form, write_rows(chunks, form, list(rows))) for name, (form, rows) in tables.items()]
    return write_state(chunks, triples)


def plain(chunks, state):
    return {name: (form, rows) for name, form, rows in plain_tables(chunks, state)}


def by_key(form, rows):
    return {split_row(form, row)[0]: row for row in rows}


def same_two(base, ours, theirs):
    """The choice of three things as a list of one, or an empty list, as point 25 tells."""
    if ours == base:
        return [theirs]
    return [ours] if theirs in (base, ours) else []


def rows_merged(form, base, ours, theirs):
    """The pair of a merged row and the names in conflict, as point 29 tells."""
    if same_two(base, ours, theirs):
        return same_two(base, ours, theirs)[0], None
    if ours is None or theirs is None:
        return ours, ()
    found, names = [], []
    for place, name in enumerate(column_names(form)):
        one, two = ours[place], theirs[place]
        choice = same_two(base[place], one, two) if base is not None else [one] * (one == two)
        names += [name] * (not choice)
        found.append((choice + [one])[0])
    return tuple(found), tuple(names) or None


def is_changed(base, side, name):
    """Whether a side has a column of the base as it was, with another value in a row that both have."""
    base_form, base_rows = base
    form, rows = side
    kinds = {column[0]: base_kind(column[1]) for column in form[0]}
    if kinds.get(name) != {column[0]: base_kind(column[1]) for column in base_form[0]}[name]:
        return False
    before, after = by_key(base_form, base_rows), by_key(form, rows)
    old, new = column_names(base_form).index(name), column_names(form).index(name)
    return any(before[key][old] != after[key][new] for key in before if key in after)


def table_merged(name, base, ours, theirs):
    """The merged table and its conflicts, as points 28 to 30 tell."""
    if same_two(base, ours, theirs):
        return same_two(base, ours, theirs)[0], []
    in_conflict = ours, [("table", name)]
    if ours is None or theirs is None:
        return in_conflict
    if base is None:
        if ours[0] != theirs[0]:
            return in_conflict
        form, base = ours[0], (ours[0], [])
    else:
        form = merge_forms(base[0], ours[0], theirs[0])
        if form is None:
            return in_conflict
        for lost in lost_columns(base[0], form):
            if is_changed(base, ours, lost) or is_changed(base, theirs, lost):
                return in_conflict
    sides = [by_key(form, [reshape(side[0], form, row) for row in side[1]]) for side in (base, ours, theirs)]
    rows, conflicts = [], []
    for key in sorted(set().union(*sides)):
        row, names = rows_merged(form, *[side.get(key) for side in sides])
        rows += [row] * (row is not None)
        conflicts += [("row", name, key, names)] * (names is not None)
    return (form, rows), conflicts


def states_merged(base, ours, theirs):
    """The merged tables and the conflicts of three dicts of tables."""
    tables, conflicts = {}, []
    for name in sorted(set(base) | set(ours) | set(theirs)):
        table, found = table_merged(name, base.get(name), ours.get(name), theirs.get(name))
        conflicts += found
        if table is not None:
            tables[name] = table
    return tables, conflicts


def random_row(rng, form, key):
    pools = {"int": [0, 1, 5], "int?": [0, 1, None], "text": ["x", "w", "d"]}
    values = [rng.choice(pools[column[1]]) for column in form[0]]
    places = {name: place for place, name in enumerate(column_names(form))}
    for name in form[1]:
        values[places[name]] = key if form != TEXT_KEY else str(key)
    return tuple(values)


def random_table(rng, form=None):
    form = form or rng.choice(FORMS + [PLAIN, PLAIN, TWO_KEYS, TEXT_KEY])
    rows = by_key(form, [random_row(rng, form, key) for key in rng.sample(range(14), rng.randrange(14))])
    return form, [rows[key] for key in sorted(rows)]


def changed_table(rng, table):
    """A table like the given one, but with another form or with other rows."""
    form, rows = table
    if rng.random() < 0.3:
        new = rng.choice(FORMS)
        if key_signature(new) == key_signature(form):
            form, rows = new, [reshape(form, new, row) for row in rows]
    found = by_key(form, rows)
    for _ in range(rng.choice([0, 1, 3])):
        row = random_row(rng, form, rng.randrange(14))
        key = split_row(form, row)[0]
        if rng.random() < 0.3:
            found.pop(key, None)
        else:
            found[key] = row
    return form, [found[key] for key in sorted(found)]


def changed_tables(rng, tables):
    found = {}
    for name, table in tables.items():
        chance = rng.random()
        if chance > 0.1:
            found[name] = table if chance < 0.2 else changed_table(rng, table)
    for name in "ad":
        if rng.random() < 0.2:
            found[name] = random_table(rng, PLAIN if rng.random() < 0.7 else None)
    return found


class MergeRowTest(unittest.TestCase):
    def test_examples(self):
        self.assertEqual(merge_row(PLAIN, (1, 2, 7), (5, 2, 7), (1, None, 7)), ((5, None, 7), None))
        self.assertEqual(merge_row(PLAIN, (1, 2, 7), (5, 3, 7), (6, 2, 7)), ((5, 3, 7), ("a",)))

    def test_none(self):
        row, other, third = (1, 2, 7), (1, 3, 7), (4, 2, 7)
        self.assertEqual(merge_row(PLAIN, None, None, None), (None, None))
        self.assertEqual(merge_row(PLAIN, row, None, None), (None, None))
        self.assertEqual(merge_row(PLAIN, None, row, None), (row, None))
        self.assertEqual(merge_row(PLAIN, None, None, row), (row, None))
        self.assertEqual(merge_row(PLAIN, row, row, None), (None, None))
        self.assertEqual(merge_row(PLAIN, row, None, row), (None, None))
        self.assertEqual(merge_row(PLAIN, row, other, None), (other, ()))
        self.assertEqual(merge_row(PLAIN, row, None, other), (None, ()))
        self.assertEqual(merge_row(PLAIN, None, row, row), (row, None))
        self.assertEqual(merge_row(PLAIN, None, row, other), (row, ("b",)))
        self.assertEqual(merge_row(PLAIN, None, other, third), (other, ("a", "b")))
        self.assertEqual(merge_row(PLAIN, None, (None, 2, 7), (1, 2, 7)), ((None, 2, 7), ("a",)))

    def test_columns(self):
        row = (1, 2, 7)
        self.assertEqual(merge_row(PLAIN, row, row, row), (row, None))
        self.assertEqual(merge_row(PLAIN, row, row, (9, 9, 7)), ((9, 9, 7), None))
        self.assertEqual(merge_row(PLAIN, row, (9, 9, 7), row), ((9, 9, 7), None))
        self.assertEqual(merge_row(PLAIN, row, (9, 8, 7), (9, 8, 7)), ((9, 8, 7), None))
        self.assertEqual(merge_row(PLAIN, row, (9, 8, 7), (9, 2, 7)), ((9, 8, 7), None))
        self.assertEqual(merge_row(PLAIN, row, (9, 8, 7), (6, 5, 7)), ((9, 8, 7), ("a", "b")))
        self.assertEqual(merge_row(PLAIN, row, (9, 8, 7), (1, 5, 7)), ((9, 8, 7), ("b",)))
        self.assertEqual(merge_row(PLAIN, row, (None, 2, 7), (None, None, 7)), ((None, None, 7), None))
        self.assertEqual(merge_row(PLAIN, row, (None, 2, 7), (0, None, 7)), ((None, None, 7), ("a",)))

    def test_all_rows(self):
        rows = [None] + [row + (7,) for row in itertools.product([None, 0, 1, 2], repeat=2)]
        for base, ours, theirs in itertools.product(rows, repeat=3):
            found = merge_row(PLAIN, base, ours, theirs)
            self.assertEqual(found, rows_merged(PLAIN, base, ours, theirs))
            other = merge_row(PLAIN, base, theirs, ours)
            self.assertEqual(other[1], found[1])
            if found[1] is None:
                self.assertEqual(other[0], found[0])

    def test_kinds_of_columns(self):
        form = make_form([("k", "text", "", 0, ""), ("n", "text?", None, 0, ""), ("z", "int", 0, 0, "")], ["k", "z"])
        base, ours, theirs = ("a", "x", 1), ("a", None, 1), ("a", "", 1)
        self.assertEqual(merge_row(form, base, ours, theirs), (ours, ("n",)))
        self.assertEqual(merge_row(form, base, base, theirs), (theirs, None))
        self.assertEqual(merge_row(form, None, ours, theirs), (ours, ("n",)))


class MergeStatesTest(unittest.TestCase):
    def assert_merged(self, base, ours, theirs, tables, conflicts):
        """Merging leads to these tables and conflicts, and changes nothing of what was there."""
        self.assertEqual(states_merged(base, ours, theirs), (tables, conflicts))
        chunks = new_chunks()
        states = [write(chunks, side) for side in (base, ours, theirs)]
        before = [plain(chunks, state) for state in states]
        state, found = merge_states(chunks, *states)
        self.assertEqual(found, conflicts)
        self.assertIs(type(found), list)
        self.assertEqual(plain(chunks, state), tables)
        self.assertEqual(write(chunks, tables), state)
        self.assertEqual([plain(chunks, state) for state in states], before)
        self.assert_turned(chunks, states, state, conflicts)

    def assert_turned(self, chunks, states, state, conflicts):
        """With all conflicts resolved to theirs there is what the merge the other way round leads to."""
        base, ours, theirs = states
        for conflict in conflicts:
            self.assertEqual(resolve_conflict(chunks, state, theirs, conflict, "ours"), state)
        turned, turned_conflicts = merge_states(chunks, base, theirs, ours)
        self.assertEqual(turned_conflicts, conflicts)
        for order in (conflicts, conflicts[::-1]):
            resolved = state
            for conflict in order:
                resolved = resolve_conflict(chunks, resolved, theirs, conflict, "theirs")
                self.assertEqual(resolve_conflict(chunks, resolved, theirs, conflict, "theirs"), resolved)
            self.assertEqual(resolved, turned)

    def test_no_tables(self):
        self.assert_merged({}, {}, {}, {}, [])

    def test_tables_of_one_side(self):
        one = (PLAIN, [(1, 2, 3), (4, 5, 6)])
        two = (WORDS, [(1, "b", 3)])
        for table in (one, two, (PLAIN, [])):
            self.assert_merged({}, {"t": table}, {}, {"t": table}, [])
            self.assert_merged({}, {}, {"t": table}, {"t": table}, [])
            self.assert_merged({"t": table}, {}, {"t": table}, {}, [])
            self.assert_merged({"t": table}, {"t": table}, {}, {}, [])
            self.assert_merged({"t": table}, {}, {}, {}, [])
            self.assert_merged({}, {"t": table}, {"t": table}, {"t": table}, [])
        self.assert_merged({}, {"a": one}, {"b": two}, {"a": one, "b": two}, [])
        self.assert_merged({"b": two}, {"a": one, "b": two}, {"b": two, "c": one}, {"a": one, "b": two, "c": one}, [])

    def test_a_table_that_one_side_changed(self):
        base = (PLAIN, [(1, 2, 3), (4, 5, 6)])
        changed = [
            (PLAIN, []), (PLAIN, [(1, 2, 3)]), (PLAIN, [(1, 2, 3), (0, 5, 6)]), (PLAIN, [(1, 2, 3), (4, 5, 6), (7, 8, 9)]),
            (WIDER, [(1, 2, "x", 3), (4, 5, "y", 6)]), (NARROW, [(1, 3), (4, 6)]), (TEXT_KEY, [(1, 2, "3")]),
            (TWO_KEYS, [(1, 2, 3), (4, 5, 6)]), (WORDS, [(1, "2", 3)]), (UNIQUE, [(1, 2, 3), (4, 5, 6)]),
        ]
        for table in changed:
            self.assert_merged({"t": base}, {"t": table}, {"t": base}, {"t": table}, [])
            self.assert_merged({"t": base}, {"t": base}, {"t": table}, {"t": table}, [])
            self.assert_merged({"t": base}, {"t": table}, {"t": table}, {"t": table}, [])

    def test_changed_and_dropped(self):
        base = (PLAIN, [(1, 2, 3), (4, 5, 6)])
        for table in ((PLAIN, [(1, 2, 3)]), (PLAIN, []), (UNIQUE, base[1]), (TEXT_KEY, [])):
            self.assert_merged({"t": base}, {"t": table}, {}, {"t": table}, [("table", "t")])
            self.assert_merged({"t": base}, {}, {"t": table}, {}, [("table", "t")])

    def test_made_on_both_sides(self):
        one, two = [(1, 2, 3), (4, 5, 6)], [(1, 2, 3), (7, 8, 9)]
        both = [(1, 2, 3), (4, 5, 6), (7, 8, 9)]
        self.assert_merged({}, {"t": (PLAIN, one)}, {"t": (PLAIN, two)}, {"t": (PLAIN, both)}, [])
        self.assert_merged({}, {"t": (PLAIN, one)}, {"t": (PLAIN, [])}, {"t": (PLAIN, one)}, [])
        self.assert_merged(
            {}, {"t": (PLAIN, [(1, 2, 3), (4, 5, 6)])}, {"t": (PLAIN, [(0, 2, 3), (4, 5, 6), (None, 4, 7)])},
            {"t": (PLAIN, [(1, 2, 3), (4, 5, 6), (None, 4, 7)])}, [("row", "t", (3,), ("a",))],
        )
        for form in (UNIQUE, WORDS, TEXT_KEY, TWO_KEYS, NARROW):
            self.assert_merged({}, {"t": (PLAIN, one)}, {"t": (form, [])}, {"t": (PLAIN, one)}, [("table", "t")])
            self.assert_merged({}, {"t": (form, [])}, {"t": (PLAIN, one)}, {"t": (form, [])}, [("table", "t")])
            self.assert_merged({}, {"t": (PLAIN, [])}, {"t": (form, [])}, {"t": (PLAIN, [])}, [("table", "t")])

    def test_rows(self):
        self.assert_merged(
            {"t": (PLAIN, [(0, 0, key) for key in range(9)])},
            {"t": (PLAIN, [(1, 0, 0), (1, 1, 1), (0, 0, 2), (1, 1, 4), (0, 0, 5), (1, 0, 7), (0, 0, 8), (1, 1, 9), (1, 1, 20)])},
            {"t": (PLAIN, [(0, 1, 0), (2, 1, 1), (0, 0, 2), (0, 0, 3), (1, 1, 6), (1, 0, 7), (2, 2, 8), (1, 2, 9), (0, 1, 10)])},
            {"t": (PLAIN, [
                (1, 1, 0), (1, 1, 1), (0, 0, 2), (1, 1, 4), (1, 0, 7), (2, 2, 8), (1, 1, 9), (0, 1, 10), (1, 1, 20),
            ])},
            [("row", "t", (1,), ("a",)), ("row", "t", (4,), ()), ("row", "t", (6,), ()), ("row", "t", (9,), ("b",))],
        )

    def test_forms_and_rows(self):
        self.assert_merged(
            {"t": (PLAIN, [(1, 2, 3), (4, 5, 6)])},
            {"t": (WIDER, [(1, 2, "y", 3), (4, 5, "x", 6), (7, 7, "z", 7)])},
            {"t": (UNIQUE, [(1, 9, 3), (8, 5, 6), (8, 8, 8)])},
            {"t": (make_form([ID, ("b", "int?", None, 1, ""), ("c", "text", "x", 0, "")] + maybe("a"), ["id"]), [
                (1, 9, "y", 3), (8, 5, "x", 6), (7, 7, "z", 7), (8, 8, "x", 8),
            ])},
            [],
        )
        # What a side has of its own under an old form is compared after it was reshaped.
        self.assert_merged(
            {"t": (PLAIN, [(1, None, 3), (4, 5, 6)])},
            {"t": (STRICT, [(1, 5, 3), (4, 5, 6)])},
            {"t": (PLAIN, [(1, 5, 3), (4, None, 6), (4, None, 9)])},
            {"t": (STRICT, [(1, 5, 3), (4, 5, 6), (4, 5, 9)])},
            [],
        )
        self.assert_merged(
            {"t": (PLAIN, [(1, None, 3)])}, {"t": (STRICT, [(1, 6, 3)])}, {"t": (PLAIN, [(1, 7, 3)])},
            {"t": (STRICT, [(1, 6, 3)])}, [("row", "t", (3,), ("b",))],
        )

    def test_forms_that_clash(self):
        rows = [(1, 2, 3)]
        for form, other in itertools.permutations([(NARROW, [(1, 3)]), (WORDS, [(1, "2", 3)]), (STRICT, rows), (UNIQUE, rows)], 2):
            self.assert_merged({"t": (PLAIN, rows)}, {"t": form}, {"t": other}, {"t": form}, [("table", "t")])
        for other in ((TEXT_KEY, [(1, 2, "3")]), (TWO_KEYS, rows)):
            mine = (PLAIN, [(1, 4, 3)])
            self.assert_merged({"t": (PLAIN, rows)}, {"t": mine}, {"t": other}, {"t": mine}, [("table", "t")])
            self.assert_merged({"t": (PLAIN, rows)}, {"t": other}, {"t": mine}, {"t": other}, [("table", "t")])

    def test_a_lost_column(self):
        base = (PLAIN, [(1, 2, 3), (4, 5, 6)])
        # The other side changed a value in the column that is dropped.
        changed = (PLAIN, [(1, 9, 3), (4, 5, 6)])
        dropped = (NARROW, [(1, 3), (7, 6)])
        self.assert_merged({"t": base}, {"t": dropped}, {"t": changed}, {"t": dropped}, [("table", "t")])
        self.assert_merged({"t": base}, {"t": changed}, {"t": dropped}, {"t": changed}, [("table", "t")])
        # It changed other values, and it added and removed rows.
        left = (PLAIN, [(8, 2, 3), (9, 9, 9)])
        merged = (NARROW, [(8, 3), (9, 9)])
        self.assert_merged({"t": base}, {"t": (NARROW, [(1, 3), (4, 6)])}, {"t": left}, {"t": merged}, [])
        self.assert_merged({"t": base}, {"t": left}, {"t": (NARROW, [(1, 3), (4, 6)])}, {"t": merged}, [])
        conflict = [("row", "t", (6,), ())]
        self.assert_merged({"t": base}, {"t": dropped}, {"t": left}, {"t": (NARROW, [(8, 3), (7, 6), (9, 9)])}, conflict)
        self.assert_merged({"t": base}, {"t": left}, {"t": dropped}, {"t": merged}, conflict)

    def test_a_column_of_another_base_kind(self):
        base = (PLAIN, [(1, 2, 3), (4, None, 6)])
        words = (WORDS, [(1, "v", 3), (4, "w", 6)])
        changed = (PLAIN, [(1, 2, 3), (4, 5, 6)])
        self.assert_merged({"t": base}, {"t": words}, {"t": changed}, {"t": words}, [("table", "t")])
        self.assert_merged({"t": base}, {"t": changed}, {"t": words}, {"t": changed}, [("table", "t")])
        left = (PLAIN, [(0, 2, 3), (4, None, 6), (1, 1, 1)])
        merged = (WORDS, [(1, "w", 1), (0, "v", 3), (4, "w", 6)])
        self.assert_merged({"t": base}, {"t": words}, {"t": left}, {"t": merged}, [])
        self.assert_merged({"t": base}, {"t": left}, {"t": words}, {"t": merged}, [])
        # No side has the column as it was in the base: the rows are merged.
        ours, theirs = (WORDS, [(1, "v", 3), (4, "z", 6)]), (WORDS, [(1, "w", 3), (4, "y", 6)])
        merged = (WORDS, [(1, "v", 3), (4, "z", 6)])
        self.assert_merged({"t": base}, {"t": ours}, {"t": theirs}, {"t": merged}, [("row", "t", (6,), ("b",))])

    def test_a_column_that_is_not_lost(self):
        base = (PLAIN, [(1, 2, 3), (4, 5, 6)])
        changed = (PLAIN, [(1, 9, 3), (4, 5, 6)])
        for form in (UNIQUE, STRICT):
            self.assert_merged({"t": base}, {"t": (form, base[1])}, {"t": changed}, {"t": (form, changed[1])}, [])
            self.assert_merged({"t": base}, {"t": changed}, {"t": (form, base[1])}, {"t": (form, changed[1])}, [])

    def test_conflicts_among_merged_tables(self):
        base = {name: (PLAIN, [(0, 0, key) for key in (-5, 2, 10)]) for name in ("a", "b", "ba", "c", "d")}
        ours = dict(base, a=(PLAIN, [(1, 0, -5), (0, 0, 2), (1, 1, 10)]), b=(NARROW, [(1, 2)]), d=(PLAIN, []))
        theirs = dict(base, a=(PLAIN, [(2, 0, -5), (0, 7, 2), (2, 0, 10)]), b=(PLAIN, [(0, 1, 2)]), c=(PLAIN, []))
        del ours["ba"]
        theirs["ba"] = (PLAIN, [(0, 0, 3)])
        theirs["d"] = (PLAIN, [(1, 0, -5), (0, 0, 2), (0, 2, 10)])
        merged = {
            "a": (PLAIN, [(1, 0, -5), (0, 7, 2), (1, 1, 10)]), "b": ours["b"], "c": (PLAIN, []), "d": (PLAIN, []),
        }
        self.assert_merged(base, ours, theirs, merged, [
            ("row", "a", (-5,), ("a",)), ("row", "a", (10,), ("a",)), ("table", "b"), ("table", "ba"),
            ("row", "d", (-5,), ()), ("row", "d", (10,), ()),
        ])

    def test_two_key_columns(self):
        base = {"t": (TWO_KEYS, [(1, 2, 3), (1, 2, 10), (2, 2, 1)])}
        ours = {"t": (TWO_KEYS, [(1, 3, 3), (1, 2, 10), (2, 4, 1)])}
        theirs = {"t": (TWO_KEYS, [(1, 4, 3), (1, 4, 10), (2, 5, 1)])}
        merged = {"t": (TWO_KEYS, [(1, 3, 3), (1, 4, 10), (2, 4, 1)])}
        self.assert_merged(base, ours, theirs, merged, [("row", "t", (1, 3), ("b",)), ("row", "t", (2, 1), ("b",))])

    def test_unsound_states(self):
        """Merging does not ask whether the merged state is sound."""
        form = make_form([ID, ("u", "int", 0, 1, "nowhere")], ["id"])
        self.assert_merged(
            {"t": (form, [])}, {"t": (form, [(1, 5)])}, {"t": (form, [(2, 5)])}, {"t": (form, [(1, 5), (2, 5)])}, [],
        )

    def test_random_states(self):
        kinds = {}
        for seed in range(600):
            rng = random.Random(seed)
            base = {name: random_table(rng) for name in rng.sample("abc", rng.randrange(4))}
            ours, theirs = changed_tables(rng, base), changed_tables(rng, base)
            tables, conflicts = states_merged(base, ours, theirs)
            self.assert_merged(base, ours, theirs, tables, conflicts)
            for conflict in conflicts or [("none",)]:
                kind = (conflict[0], conflict[-1] == ())
                kinds[kind] = kinds.get(kind, 0) + 1
        self.assertEqual(len(kinds), 4)
        self.assertGreater(min(kinds.values()), 40)

    def test_lists_belong_to_the_caller(self):
        chunks = new_chunks()
        states = [write(chunks, {"t": (PLAIN, [(number, 2, 3)])}) for number in range(3)]
        _, conflicts = merge_states(chunks, *states)
        conflicts.clear()
        self.assertEqual(merge_states(chunks, *states)[1], [("row", "t", (3,), ("a",))])

    def test_missing_chunks(self):
        chunks = new_chunks()
        states = [write(chunks, {"t": (PLAIN, [(number, 2, 3)])}) for number in range(3)]
        for state in states:
            copy = Chunks(chunks.book)
            for address in chunks.addresses():
                copy.put(chunks.get(address))
            copy.drop(state)
            with self.assertRaises(MissingChunk) as caught:
                merge_states(copy, *states)
            self.assertEqual(caught.exception.address, state)


class ResolveTest(unittest.TestCase):
    def setUp(self):
        self.chunks = new_chunks()
        self.theirs = self.write({
            "t": (PLAIN, [(1, None, 3), (4, 5, 6)]), "u": (NARROW, []), "w": (WIDER, [(1, None, "q", 3), (4, 5, "r", 6)]),
        })
        self.mine = {"t": (PLAIN, [(7, 8, 3), (9, 9, 9)]), "v": (PLAIN, [(1, 2, 3)])}
        self.state = self.write(self.mine)

    def write(self, tables):
        return write(self.chunks, tables)

    def assert_resolved(self, conflict, side, changes, state=None):
        """The state has other tables for these names, or none for None."""
        state = self.state if state is None else state
        before = plain(self.chunks, state)
        found = resolve_conflict(self.chunks, state, self.theirs, conflict, side)
        wanted = {name: table for name, table in dict(before, **changes).items() if table is not None}
        self.assertEqual(plain(self.chunks, found), wanted)
        self.assertEqual(found, self.write(wanted))
        self.assertEqual(plain(self.chunks, state), before)
        self.assertEqual(resolve_conflict(self.chunks, found, self.theirs, conflict, side), found)

    def test_ours(self):
        for conflict in (
            ("table", "t"), ("table", "u"), ("table", "v"), ("row", "t", (3,), ()), ("row", "t", (3,), ("a",)),
            ("row", "t", (9,), ()), ("row", "v", (3,), ()),
        ):
            self.assert_resolved(conflict, "ours", {})

    def test_a_table(self):
        self.assert_resolved(("table", "t"), "theirs", {"t": (PLAIN, [(1, None, 3), (4, 5, 6)])})
        self.assert_resolved(("table", "u"), "theirs", {"u": (NARROW, [])})
        self.assert_resolved(("table", "v"), "theirs", {"v": None})
        self.assert_resolved(("table", "x"), "theirs", {})

    def test_a_row(self):
        self.assert_resolved(("row", "t", (3,), ()), "theirs", {"t": (PLAIN, [(1, None, 3), (9, 9, 9)])})
        self.assert_resolved(("row", "t", (6,), ()), "theirs", {"t": (PLAIN, [(7, 8, 3), (4, 5, 6), (9, 9, 9)])})
        self.assert_resolved(("row", "t", (9,), ()), "theirs", {"t": (PLAIN, [(7, 8, 3)])})
        self.assert_resolved(("row", "t", (5,), ()), "theirs", {})

    def test_columns(self):
        self.assert_resolved(("row", "t", (3,), ("a",)), "theirs", {"t": (PLAIN, [(1, 8, 3), (9, 9, 9)])})
        self.assert_resolved(("row", "t", (3,), ("b",)), "theirs", {"t": (PLAIN, [(7, None, 3), (9, 9, 9)])})
        self.assert_resolved(("row", "t", (3,), ("a", "b")), "theirs", {"t": (PLAIN, [(1, None, 3), (9, 9, 9)])})
        self.assert_resolved(("row", "t", (3,), ("a", "c")), "theirs", {"t": (PLAIN, [(1, 8, 3), (9, 9, 9)])})
        self.assert_resolved(("row", "t", (3,), ("c",)), "theirs", {})
        # A row that theirs or the state does not have stays as it is.
        self.assert_resolved(("row", "t", (9,), ("a",)), "theirs", {})
        self.assert_resolved(("row", "t", (6,), ("a",)), "theirs", {})
        self.assert_resolved(("row", "t", (5,), ("a",)), "theirs", {})

    def test_tables_that_are_not_there(self):
        for columns in ((), ("a",)):
            for name in ("u", "v", "x"):
                self.assert_resolved(("row", name, (3,), columns), "theirs", {})

    def test_other_forms(self):
        for columns in ((), ("a",), ("b",)):
            for table in ((TEXT_KEY, [(7, 8, "3")]), (TWO_KEYS, [(7, 8, 3)])):
                state = self.write(dict(self.mine, t=table))
                self.assert_resolved(("row", "t", (3,), columns), "theirs", {}, state)
        state = self.write({"t": (WIDER, [(7, 8, "y", 3)]), "w": (STRICT, [(7, 8, 3)])})
        self.assert_resolved(("row", "t", (3,), ()), "theirs", {"t": (WIDER, [(1, None, "x", 3)])}, state)
        self.assert_resolved(("row", "t", (6,), ()), "theirs", {"t": (WIDER, [(7, 8, "y", 3), (4, 5, "x", 6)])}, state)
        self.assert_resolved(("row", "t", (3,), ("a",)), "theirs", {"t": (WIDER, [(1, 8, "y", 3)])}, state)
        self.assert_resolved(("row", "t", (3,), ("b", "c")), "theirs", {"t": (WIDER, [(7, None, "x", 3)])}, state)
        self.assert_resolved(("row", "w", (3,), ("b", "c")), "theirs", {"w": (STRICT, [(7, 5, 3)])}, state)
        self.assert_resolved(("row", "w", (3,), ()), "theirs", {"w": (STRICT, [(1, 5, 3)])}, state)
        self.assert_resolved(("row", "w", (3,), ("c",)), "theirs", {}, state)
        narrow = self.write({"t": (NARROW, [(7, 3)])})
        self.assert_resolved(("row", "t", (3,), ("b",)), "theirs", {}, narrow)
        self.assert_resolved(("row", "t", (3,), ("a", "b")), "theirs", {"t": (NARROW, [(1, 3)])}, narrow)

    def test_a_state_that_is_missing(self):
        for conflict in (("table", "t"), ("row", "t", (3,), ())):
            for missing in (self.state, self.theirs):
                text = self.chunks.get(missing)
                self.chunks.drop(missing)
                with self.assertRaises(MissingChunk) as caught:
                    resolve_conflict(self.chunks, self.state, self.theirs, conflict, "theirs")
                self.assertEqual(caught.exception.address, missing)
                self.chunks.put(text)


if __name__ == "__main__":
    unittest.main()
