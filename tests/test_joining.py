"""Points 25 to 31, 34, 46, 50 and 51: merging at a desk."""

import unittest

from tests.desks import LINKED, TURNED, WARES, WIDER, DeskCase
from versiontables.commits import read_commit
from versiontables.errors import InvalidVersion, NotClean, NotMerging, UnknownConflict, UnknownVersion, UnresolvedConflicts
from versiontables.forms import make_form
from versiontables.joining import conflicts, merge


class JoiningCase(DeskCase):
    def setUp(self):
        super().setUp()
        self.do("create_table", "wares", WARES)
        self.start = self.save_as("start", (1, "a", 1), (2, "b", 2), (3, "c", 3))
        self.do("add_branch", "side")

    def on(self, branch, message, *rows, gone=()):
        """Go to the branch and commit there; return the address of the commit."""
        self.do("checkout", branch)
        self.do("remove_rows", "wares", list(gone))
        return self.save_as(message, *rows)


class OutcomeTest(JoiningCase):
    def test_same(self):
        main = self.on("main", "more", (4, "d", 4))
        for version in ("main", "@", "side", "main~~", ":" + str(self.start), ":" + str(self.root), "@~"):
            self.assertEqual(self.do("merge", version), "same")
        self.assertEqual((self.desk.branches["main"], self.desk.merging), (main, None))

    def test_forward(self):
        main = self.on("main", "more", (4, "d", 4))
        self.do("checkout", "side")
        self.assertEqual(self.do("merge", "main"), "forward")
        self.assertEqual((self.desk.head, self.desk.branches["side"]), (("branch", "side"), main))
        self.assertEqual(len(self.rows("wares")), 4)
        self.assertIs(self.desk.is_clean(), True)
        self.do("checkout", "@~")
        self.assertEqual(self.do("merge", "side"), "forward")
        self.assertEqual(self.desk.head, ("commit", main))

    def test_forward_over_a_second_parent(self):
        self.on("side", "there", (5, "e", 5))
        main = self.on("main", "here", (4, "d", 4))
        self.do("merge", "side")
        both = self.do("commit", "both")
        self.do("checkout", "side")
        self.assertEqual(self.do("merge", "main"), "forward")
        self.assertEqual(self.desk.branches, {"main": both, "side": both})
        self.do("checkout", ":" + str(main))
        self.assertEqual(self.do("merge", "@"), "same")
        self.assertEqual(self.do("merge", "side~"), "same")
        self.assertEqual(self.do("merge", "side^"), "joined")

    def test_joined(self):
        side = self.on("side", "there", (1, "there", 1), (5, "e", 5), gone=[(2,)])
        main = self.on("main", "here", (1, "a", 9), (4, "d", 4))
        self.assertEqual(self.do("merge", "side"), "joined")
        self.assertEqual(self.rows("wares"), [(1, "there", 9), (3, "c", 3), (4, "d", 4), (5, "e", 5)])
        self.assertEqual(self.desk.merging, (side, []))
        self.assertEqual((self.desk.branches, self.desk.head), ({"main": main, "side": side}, ("branch", "main")))
        self.assertEqual(self.do("conflicts"), [])
        self.assertIs(self.desk.is_clean(), False)
        both = self.do("commit", "both")
        self.assertEqual(read_commit(self.desk.chunks, both)[1], (main, side))

    def test_conflicts(self):
        side = self.on("side", "there", (1, "there", 7), (3, "there", 3), (4, "x", 4), gone=[(2,)])
        self.on("main", "here", (1, "here", 8), (2, "here", 2), (4, "y", 4), gone=[(3,)])
        self.assertEqual(self.do("merge", "side"), "conflicts")
        found = [
            ("row", "wares", (1,), ("name", "price")), ("row", "wares", (2,), ()), ("row", "wares", (3,), ()),
            ("row", "wares", (4,), ("name",)),
        ]
        self.assertEqual(self.desk.merging, (side, found))
        self.assertEqual(self.do("conflicts"), found)
        self.assertEqual(self.rows("wares"), [(1, "here", 8), (2, "here", 2), (4, "y", 4)])
        self.fails(UnresolvedConflicts, "commit", "both")

    def test_a_table_in_conflict(self):
        self.do("checkout", "side")
        self.do("drop_table", "wares")
        self.do("commit", "gone")
        self.on("main", "here", (4, "d", 4))
        self.assertEqual(self.do("merge", "side"), "conflicts")
        self.assertEqual(self.do("conflicts"), [("table", "wares")])
        self.assertEqual(self.do("settle", 0, "theirs"), 0)
        self.assertEqual(self.model.working, {})
        self.do("commit", "both")

    def test_an_unsound_result(self):
        """Point 30: merging does not ask whether the merged state is sound."""
        self.do("create_table", "more", LINKED)
        self.do("put_rows", "more", [(1, "", 1), (2, "", 2)])
        self.do("commit", "more")
        self.do("checkout", "side")
        self.do("remove_rows", "wares", [(1,)])
        self.do("commit", "less")
        self.assertEqual(self.do("merge", "main"), "joined")
        self.assertEqual(self.rows("more")[0], (1, "", 1))

    def test_lines_that_cross(self):
        """The merge base is the best common ancestor with the greatest address."""
        left = self.on("side", "left", (1, "left", 1))
        right = self.on("main", "right", (1, "a", 5))
        self.do("merge", "side")
        self.do("commit", "right first")
        self.do("checkout", ":" + str(left))
        self.do("add_branch", "other")
        self.do("checkout", "other")
        self.do("merge", ":" + str(right))
        self.do("put_rows", "wares", [(1, "left", 1)])
        self.do("commit", "left first")
        self.assertGreater(right, left)
        # The base is `right`, with the price 5: other alone changed it. Against `left` it would be main alone.
        self.assertEqual(self.do("merge", "main"), "joined")
        self.assertEqual(self.rows("wares")[0], (1, "left", 1))
        self.do("abort")
        self.do("checkout", "main")
        self.assertEqual(self.do("merge", "other"), "joined")
        self.assertEqual(self.rows("wares")[0], (1, "left", 1))

    def test_no_common_work(self):
        """The root commit may be the merge base."""
        self.do("checkout", ":" + str(self.root))
        self.do("create_table", "others", WIDER)
        self.do("commit", "others")
        self.assertEqual(self.do("merge", "main"), "joined")
        self.assertEqual(sorted(self.model.working), ["others", "wares"])

    def test_desks_that_are_not_clean(self):
        self.on("side", "there", (5, "e", 5))
        self.on("main", "here", (4, "d", 4))
        self.do("put_rows", "wares", [(9, "z", 9)])
        for version in ("main", "side", "@", ":" + str(self.root)):
            self.fails(NotClean, "merge", version)
        self.do("reset", "@")
        self.do("merge", "side")
        for version in ("main", "side", "@"):
            self.fails(NotClean, "merge", version)
        for version in ("", "Main", "~"):
            self.fails(InvalidVersion, "merge", version)
        for version in ("nowhere", "/side", "@~~~", "side^"):
            self.fails(UnknownVersion, "merge", version)


class ExampleTest(DeskCase):
    def test_the_example(self):
        form = make_form([("id", "int", 0, 0, ""), ("price", "int?", None, 0, "")], ["id"])
        self.do("create_table", "wares", form)
        self.do("put_rows", "wares", [(1, 10), (2, 20)])
        self.do("commit", "start")
        self.do("add_branch", "side")
        self.do("put_rows", "wares", [(1, 11)])
        self.do("commit", "dearer")
        self.do("checkout", "side")
        self.do("put_rows", "wares", [(3, 30)])
        self.do("commit", "more")
        self.assertEqual(self.do("merge", "main"), "joined")
        found = self.do("ask", "wares | where price > 10")
        self.assertEqual(found, ((("id", "int"), ("price", "int")), [(1, 11), (2, 20), (3, 30)]))


class SettleTest(JoiningCase):
    def setUp(self):
        super().setUp()
        self.side = self.on("side", "there", (1, "there", 7), (3, "there", 3), (4, "x", 4), gone=[(2,)])
        self.main = self.on("main", "here", (1, "here", 8), (2, "here", 2), (4, "y", 4), gone=[(3,)])
        self.do("merge", "side")

    def test_theirs(self):
        self.assertEqual(self.do("settle", 1, "theirs"), 3)
        self.assertEqual(self.do("conflicts"), [
            ("row", "wares", (1,), ("name", "price")), ("row", "wares", (3,), ()), ("row", "wares", (4,), ("name",)),
        ])
        self.assertEqual(self.rows("wares"), [(1, "here", 8), (4, "y", 4)])
        self.assertEqual(self.do("settle", 0, "theirs"), 2)
        self.assertEqual(self.do("settle", 0, "theirs"), 1)
        self.assertEqual(self.do("settle", 0, "theirs"), 0)
        self.assertEqual(self.rows("wares"), [(1, "there", 7), (3, "there", 3), (4, "x", 4)])
        self.fails(UnknownConflict, "settle", 0, "theirs")
        self.assertEqual(self.desk.merging, (self.side, []))
        self.do("commit", "both")

    def test_ours(self):
        before = self.desk.working
        for left in (3, 2, 1, 0):
            self.assertEqual(self.do("settle", left, "ours"), left)
        self.assertEqual(self.desk.working, before)
        self.fails(UnknownConflict, "settle", 0, "ours")

    def test_each_index_and_side(self):
        for index in range(4):
            for side in ("ours", "theirs"):
                self.do("reset", "@")
                self.do("merge", "side")
                self.assertEqual(self.do("settle", index, side), 3)
                self.assertEqual(len(self.do("conflicts")), 3)

    def test_an_index_that_is_not_there(self):
        for index in (4, 5, 100, -1, -4, -5, 10 ** 30):
            self.fails(UnknownConflict, "settle", index, "ours")
            self.fails(UnknownConflict, "settle", index, "theirs")
        self.do("settle", 3, "ours")
        self.fails(UnknownConflict, "settle", 3, "ours")

    def test_rows_changed_in_between(self):
        self.do("put_rows", "wares", [(1, "new", 0), (2, "new", 0), (5, "new", 0)])
        self.do("remove_rows", "wares", [(4,)])
        self.assertEqual(self.do("settle", 3, "theirs"), 3)
        self.assertEqual(self.do("settle", 0, "theirs"), 2)
        self.assertEqual(self.rows("wares"), [(1, "there", 7), (2, "new", 0), (5, "new", 0)])
        self.do("alter_table", "wares", WIDER)
        self.assertEqual(self.do("settle", 1, "theirs"), 1)
        self.assertEqual(self.rows("wares")[2], (3, "there", 3, "red"))
        self.do("drop_table", "wares")
        self.assertEqual(self.do("settle", 0, "theirs"), 0)
        self.assertEqual(self.model.working, {})

    def test_another_key_in_between(self):
        self.do("drop_table", "wares")
        self.do("create_table", "wares", TURNED)
        self.do("put_rows", "wares", [("1", "q", 1)])
        for left in (3, 2, 1, 0):
            self.assertEqual(self.do("settle", 0, "theirs"), left)
        self.assertEqual(self.rows("wares"), [("1", "q", 1)])

    def test_branches_changed_in_between(self):
        """Theirs is the state of the other commit, wherever the branch is."""
        self.do("drop_branch", "side")
        self.do("add_branch", "side", "@")
        self.assertEqual(self.do("settle", 0, "theirs"), 3)
        self.assertEqual(self.rows("wares")[0], (1, "there", 7))

    def test_abort(self):
        self.do("settle", 0, "theirs")
        self.do("put_rows", "wares", [(9, "z", 9)])
        self.assertIsNone(self.do("abort"))
        self.assertEqual(self.rows("wares"), [(1, "here", 8), (2, "here", 2), (4, "y", 4)])
        self.assertIs(self.desk.is_clean(), True)
        self.assertEqual(self.do("merge", "side"), "conflicts")
        self.assertEqual(len(self.do("conflicts")), 4)

    def test_no_open_merge(self):
        self.do("abort")
        self.fails(NotMerging, "abort")
        for index in (0, 1, -1):
            self.fails(NotMerging, "settle", index, "ours")
        self.assertEqual(self.do("conflicts"), [])
        self.do("put_rows", "wares", [(9, "z", 9)])
        self.fails(NotMerging, "abort")

    def test_the_list_belongs_to_the_caller(self):
        conflicts(self.desk).clear()
        self.assertEqual(len(conflicts(self.desk)), 4)
        self.do("abort")
        conflicts(self.desk).append(("table", "wares"))
        self.assertEqual(conflicts(self.desk), [])
        self.assertEqual(merge(self.desk, "side"), "conflicts")
        self.model.merge("side")


if __name__ == "__main__":
    unittest.main()
