"""Points 25, 26 and 27: the choice of three things, and of the columns of three forms."""

import copy
import itertools
import random
import unittest

from versiontables.choices import choose, clash, lost_columns, merge_forms
from versiontables.forms import find_column, make_form

THINGS = [
    None, 0, 1, -1, 10 ** 59, "", "0", "a", "None", (), (None,), (1, "a"), (1, None), ((1,), (2,)), [], [1, "a"], [[1], [2]],
    [(1, "a")], ([1], "a"),
]


def forms_choice(base, ours, theirs):
    """The merged form, or None, as point 26 tells."""
    forms = (base, ours, theirs)
    kinds = [dict((column[0], column[1]) for column in form[0]) for form in forms]
    signatures = [[(name, kinds[place][name]) for name in form[1]] for place, form in enumerate(forms)]
    if signatures[1] != signatures[0] or signatures[2] != signatures[0]:
        return None
    columns = []
    for name in sorted({column[0] for form in forms for column in form[0]}):
        one, two, three = [dict((column[0], column) for column in form[0]).get(name) for form in forms]
        if len({one, two, three}) == 3:
            return None
        columns.append(three if two == one else two)
    columns = [column for column in columns if column is not None]
    return (tuple(columns), ours[1]) if len(columns) <= 12 else None


def random_form(rng, names, most):
    columns = [("id", "int", 0, 0, ""), ("word", rng.choice(["text", "text", "text?"]), "", 0, "")]
    for name in rng.sample(names, rng.randrange(min(most, len(names)) + 1)):
        kind, default = rng.choice([("int", 0), ("int?", None), ("int?", 0), ("text", "")])
        columns.append((name, kind, default, rng.randrange(2), ""))
    return make_form(columns, rng.choice([["id"], ["id"], ["id"]] + [["id", "word"]] * (columns[1][1] == "text")))


def changed_form(rng, form):
    """A form that is like the given one but for a column or two."""
    columns = {column[0]: column for column in form[0]}
    for _ in range(rng.randrange(3)):
        name = rng.choice(["a", "b", "c", "d"])
        if rng.random() < 0.3:
            columns.pop(name, None)
        else:
            kind, default = rng.choice([("int", 0), ("int?", 0), ("text", "")])
            columns[name] = (name, kind, default, 0, "")
    return make_form(list(columns.values()), list(form[1]))


class ChoiceTest(unittest.TestCase):
    def assert_choice(self, base, ours, theirs, wanted):
        """The choice is the very thing that stands at the wanted place; they clash if that is None."""
        given = (base, ours, theirs)
        before = copy.deepcopy(given)
        self.assertIs(clash(base, ours, theirs), wanted is None)
        if wanted is not None:
            self.assertIs(choose(base, ours, theirs), given[wanted])
        self.assertEqual(given, before)

    def test_all_ways_to_be_the_same(self):
        for one, two, three in itertools.permutations(THINGS, 3):
            self.assert_choice(one, two, three, None)
        for one, two in itertools.permutations(THINGS, 2):
            self.assert_choice(one, one, two, 2)
            self.assert_choice(one, two, one, 1)
            self.assert_choice(one, two, two, 1)
        for one in THINGS:
            self.assert_choice(one, one, one, 2)

    def test_the_very_thing(self):
        for one, two in (([1, 2], [3]), ([], [[]]), ((1, [2]), (1, [3])), ([None], None), ((1, 2), [1, 2])):
            copied = copy.deepcopy
            self.assert_choice(one, copied(one), copied(one), 2)
            self.assert_choice(one, copied(one), two, 2)
            self.assert_choice(one, two, copied(one), 1)
            self.assert_choice(one, two, copied(two), 1)

    def test_both_ways_round(self):
        for three in itertools.product(THINGS, repeat=3):
            base, ours, theirs = three
            self.assertEqual(clash(base, ours, theirs), clash(base, theirs, ours))
            if not clash(base, ours, theirs):
                self.assertEqual(choose(base, ours, theirs), choose(base, theirs, ours))

    def test_tuples_and_lists_are_not_the_same(self):
        self.assert_choice((1,), [1], 1, None)
        self.assert_choice((1,), [1], (1,), 1)
        self.assert_choice("1", 1, ("1",), None)
        self.assert_choice(None, 0, "", None)
        self.assert_choice(None, None, 0, 2)
        self.assert_choice(0, None, None, 1)
        self.assert_choice(0, None, 1, None)


class FormsTest(unittest.TestCase):
    ID = ("id", "int", 0, 0, "")
    A = ("a", "int", 0, 0, "")
    B = ("b", "text?", None, 0, "")
    # Columns of the name `a`, each unlike the others in one place.
    CHANGED = [
        ("a", "int?", 0, 0, ""), ("a", "text", "", 0, ""), ("a", "int", 1, 0, ""), ("a", "int", 0, 1, ""),
        ("a", "int", 0, 0, "t"),
    ]

    def form(self, *columns):
        return make_form([self.ID] + list(columns), ["id"])

    def assert_merged(self, base, ours, theirs, merged):
        self.assertEqual(forms_choice(base, ours, theirs), merged)
        self.assertEqual(merge_forms(base, ours, theirs), merged)
        self.assertEqual(merge_forms(base, theirs, ours), merged)

    def test_the_same_forms(self):
        for form in (self.form(), self.form(self.A), self.form(self.A, self.B)):
            self.assert_merged(form, form, form, form)

    def test_one_side(self):
        plain = self.form(self.B)
        wider = self.form(self.A, self.B)
        self.assert_merged(plain, wider, plain, wider)
        self.assert_merged(wider, plain, wider, plain)
        for column in self.CHANGED:
            other = self.form(column, self.B)
            self.assert_merged(wider, other, wider, other)
            self.assert_merged(plain, other, plain, other)

    def test_both_sides_alike(self):
        plain = self.form(self.B)
        wider = self.form(self.A, self.B)
        self.assert_merged(plain, wider, wider, wider)
        self.assert_merged(wider, plain, plain, plain)
        for column in self.CHANGED:
            other = self.form(column, self.B)
            self.assert_merged(wider, other, other, other)

    def test_both_sides_unlike(self):
        plain = self.form(self.B)
        wider = self.form(self.A, self.B)
        for one in self.CHANGED:
            # Both add it; both change it; one drops what the other one changes.
            self.assert_merged(plain, wider, self.form(one, self.B), None)
            self.assert_merged(wider, plain, self.form(one, self.B), None)
            for two in self.CHANGED:
                if one != two:
                    self.assert_merged(wider, self.form(one, self.B), self.form(two, self.B), None)
                    self.assert_merged(plain, self.form(one, self.B), self.form(two, self.B), None)

    def test_different_columns(self):
        self.assert_merged(self.form(), self.form(self.A), self.form(self.B), self.form(self.A, self.B))
        self.assert_merged(self.form(self.A), self.form(), self.form(self.A, self.B), self.form(self.B))
        self.assert_merged(self.form(self.A, self.B), self.form(self.A), self.form(self.B), self.form())
        for column in self.CHANGED:
            self.assert_merged(self.form(self.A), self.form(column), self.form(self.A, self.B), self.form(column, self.B))
            self.assert_merged(self.form(self.A, self.B), self.form(column, self.B), self.form(self.A), self.form(column))

    def test_the_key_columns(self):
        plain = self.form(self.A)
        unique = make_form([("id", "int", 0, 1, ""), self.A], ["id"])
        linked = make_form([("id", "int", 0, 0, "t"), self.A], ["id"])
        self.assert_merged(plain, unique, plain, unique)
        self.assert_merged(plain, unique, unique, unique)
        self.assert_merged(plain, unique, linked, None)

    def test_other_key_signatures(self):
        columns = [self.ID, self.A, ("t", "text", "", 0, "")]
        forms = [make_form(columns, key) for key in (["id"], ["a"], ["t"], ["a", "id"], ["id", "a"], ["id", "t"])]
        forms.append(make_form([("id", "text", "", 0, "")] + columns[1:], ["id"]))
        for one, two in itertools.permutations(forms, 2):
            self.assert_merged(one, one, two, None)
            self.assert_merged(one, two, two, None)
        for one in forms:
            self.assert_merged(one, one, one, one)
        for key in (["a", "id"], ["id", "a"]):
            one, two = make_form(columns, key), make_form(columns[:2], key)
            self.assert_merged(one, one, two, two)
            self.assertEqual(merge_forms(one, one, two)[1], tuple(key))

    def test_how_many_columns(self):
        def many(first, last):
            return [(letter, "int", 0, 0, "") for letter in "abcdefghjklmnop"[first:last]]

        for left, right in ((0, 11), (3, 8), (5, 6), (11, 0)):
            ours, theirs = many(0, left), many(left, left + right)
            self.assertEqual(len(ours + theirs), 11)
            merged = self.form(*ours, *theirs)
            self.assertEqual(len(merged[0]), 12)
            self.assert_merged(self.form(), self.form(*ours), self.form(*theirs), merged)
        for left, right in ((6, 6), (1, 11), (11, 1), (4, 8), (11, 3)):
            ours, theirs = many(0, left), many(left, left + right)
            self.assert_merged(self.form(), self.form(*ours), self.form(*theirs), None)
        # One side makes room for what the other one adds.
        full, fewer = self.form(*many(0, 11)), self.form(*many(2, 11))
        self.assert_merged(full, fewer, self.form(*many(0, 11)), fewer)
        self.assert_merged(self.form(*many(0, 10)), self.form(*many(2, 10)), self.form(*many(0, 11)), fewer)

    def test_random_forms(self):
        found = []
        for seed in range(2000):
            rng = random.Random(seed)
            base = random_form(rng, ["a", "b", "c", "d"], 4)
            ours, theirs = changed_form(rng, base), changed_form(rng, base)
            if rng.random() < 0.1:
                theirs = random_form(rng, ["a", "b", "c", "d"], 4)
            merged = forms_choice(base, ours, theirs)
            self.assert_merged(base, ours, theirs, merged)
            found.append(merged is None)
        self.assertGreater(min(found.count(True), found.count(False)), 200)


class LostColumnsTest(unittest.TestCase):
    def test_lost_columns(self):
        columns = [(name, kind, "" if "text" in kind else 0, 0, "") for name, kind in
                   (("a", "int"), ("b", "int?"), ("c", "text"), ("d", "text?"), ("id", "int"))]
        base = make_form(columns, ["id"])
        self.assertEqual(lost_columns(base, base), [])
        gone = make_form(columns[4:], ["id"])
        self.assertEqual(lost_columns(base, gone), ["a", "b", "c", "d"])
        self.assertEqual(lost_columns(gone, base), [])
        other_kinds = {"int": ["text", "text?"], "text": ["int", "int?"]}
        for place, (name, kind, _, _, _) in enumerate(columns[:4]):
            rest = columns[:place] + columns[place + 1:]
            self.assertEqual(lost_columns(base, make_form(rest, ["id"])), [name])
            base_kind = kind.rstrip("?")
            for same in (base_kind, base_kind + "?"):
                default = "x" if base_kind == "text" else 7
                for more in ((name, same, default, 0, ""), (name, same, default, 1, ""), (name, same, default, 0, "t")):
                    self.assertEqual(lost_columns(base, make_form(rest + [more], ["id"])), [])
            for other in other_kinds[base_kind]:
                default = "" if "text" in other else 0
                self.assertEqual(lost_columns(base, make_form(rest + [(name, other, default, 0, "")], ["id"])), [name])

    def test_the_order(self):
        columns = [(name, "int", 0, 0, "") for name in ("zz", "id", "b", "ab", "a", "aa")]
        base = make_form(columns, ["id"])
        merged = make_form([("id", "int", 0, 0, ""), ("b", "text", "", 0, ""), ("y", "int", 0, 0, "")], ["id"])
        found = lost_columns(base, merged)
        self.assertEqual(found, ["a", "aa", "ab", "b", "zz"])
        found.clear()
        self.assertEqual(lost_columns(base, merged), ["a", "aa", "ab", "b", "zz"])
        self.assertIsNone(find_column(merged, "zz"))


if __name__ == "__main__":
    unittest.main()
