"""Points 35, 46, 52, 53 and 54: picking, undoing, replaying."""

import unittest

from tests.desks import LINKED, UNIQUE, WARES, WIDER, DeskCase, commits_in
from versiontables.codec import encode
from versiontables.commits import read_commit, write_commit
from versiontables.errors import (
    InvalidVersion, NotClean, NothingToCommit, NotPickable, PickConflict, UnknownVersion, Unsound,
)
from versiontables.replaying import replay

NOT_VERSIONS = ("", "Main", "~", ":0")
NOT_COMMITS = ("nowhere", "/main", "@~~~~~~~~~", "main^^")


class ReplayingCase(DeskCase):
    def setUp(self):
        super().setUp()
        self.do("create_table", "wares", WARES)
        self.start = self.save_as("start", (1, "a", 1), (2, "b", 2), (3, "c", 3))
        self.do("add_branch", "side")

    def read(self, commit):
        return read_commit(self.desk.chunks, commit)

    def both_lines(self):
        """A merge on main: its parents are here and there."""
        here = self.save_as("here", (4, "d", 4))
        self.do("checkout", "side")
        there = self.save_as("there", (5, "e", 5))
        self.do("checkout", "main")
        self.do("merge", "side")
        return here, there, self.do("commit", "both")


class PickTest(ReplayingCase):
    def test_pick(self):
        one = self.save_as("one", (1, "one", 1), (4, "d", 4))
        self.save_as("two", (2, "two", 2))
        self.do("checkout", "side")
        self.do("put_rows", "wares", [(1, "a", 9), (7, "g", 7)])
        side = self.do("commit", "side")
        found = self.do("pick", "main~")
        self.assertEqual(self.rows("wares"), [(1, "one", 9), (2, "b", 2), (3, "c", 3), (4, "d", 4), (7, "g", 7)])
        self.assertEqual(self.read(found), (self.desk.working, (side,), "one"))
        self.assertEqual((self.desk.head, self.desk.branches["side"]), (("branch", "side"), found))
        self.assertNotEqual(found, one)
        self.assertIs(self.desk.is_clean(), True)

    def test_pick_onto_its_parent(self):
        """The created commit is the picked one: it has the same state, parent and message."""
        one = self.save_as("one", (4, "d", 4))
        self.do("checkout", "side")
        self.assertEqual(self.do("pick", "main"), one)
        self.assertEqual(self.desk.branches, {"main": one, "side": one})

    def test_a_commit_as_the_head(self):
        one = self.save_as("one", (4, "d", 4))
        self.do("checkout", ":" + str(self.root))
        self.do("create_table", "others", WIDER)
        self.do("commit", "others")
        self.fails(PickConflict, "pick", ":" + str(one))
        found = self.do("pick", "side")
        self.assertEqual(self.desk.head, ("commit", found))
        self.assertEqual(self.desk.branches["main"], one)

    def test_undo(self):
        one = self.save_as("one", (1, "one", 1), (4, "d", 4))
        two = self.save_as("two", (2, "two", 2))
        found = self.do("undo", "@~")
        self.assertEqual(self.rows("wares"), [(1, "a", 1), (2, "two", 2), (3, "c", 3)])
        self.assertEqual(self.read(found), (self.desk.working, (two,), "one"))
        self.assertEqual(self.desk.branches["main"], found)
        self.assertGreater(self.do("pick", ":" + str(one)), found)
        self.assertEqual(len(self.rows("wares")), 4)
        # The commit made the table, which is another one by now.
        self.fails(PickConflict, "undo", "side")

    def test_undo_what_was_just_picked(self):
        self.save_as("one", (1, "one", 1), (4, "d", 4))
        self.do("checkout", "side")
        before = self.save_as("other", (2, "other", 2))
        picked = self.do("pick", "main")
        undone = self.do("undo", "@")
        self.assertEqual(self.read(undone), (self.read(before)[0], (picked,), "one"))
        again = self.do("pick", ":" + str(picked))
        self.assertEqual(self.read(again), (self.read(picked)[0], (undone,), "one"))

    def test_undo_the_head_and_forms(self):
        self.do("alter_table", "wares", WIDER)
        self.do("commit", "wider")
        self.do("undo", "@")
        self.assertEqual(self.model.working["wares"][0], WARES)
        self.do("drop_table", "wares")
        self.do("commit", "gone")
        self.do("undo", "@")
        self.assertEqual(len(self.rows("wares")), 3)

    def test_commits_that_cannot_be_picked(self):
        self.both_lines()
        for name in ("pick", "undo"):
            for version in ("main", "@", ":" + str(self.root), "side~~"):
                self.fails(NotPickable, name, version)
        self.do("checkout", ":" + str(self.root))
        self.fails(NotPickable, "undo", "@")
        twice = write_commit(self.desk.chunks, self.desk.working, (self.start, self.start), "the same parent twice")
        start = self.model.resolve("side~")
        self.model.create({}, [start, start], "the same parent twice")
        self.assertTrue(self.world.link())
        self.fails(NotPickable, "pick", ":" + str(twice))

    def test_conflicts(self):
        self.save_as("one", (1, "one", 1), (4, "d", 4))
        self.do("checkout", "side")
        self.save_as("other", (1, "other", 1))
        self.fails(PickConflict, "pick", "main")
        self.do("checkout", "main")
        self.save_as("again", (1, "again", 1))
        self.fails(PickConflict, "undo", "@~")
        # The result with a conflict is the state of the head: the conflict comes first.
        self.do("checkout", "side")
        self.do("reset", "@~")
        self.save_as("other", (1, "other", 1), (4, "d", 4))
        self.fails(PickConflict, "pick", "main~")

    def test_nothing_to_commit(self):
        self.save_as("one", (1, "one", 1))
        self.do("checkout", "side")
        self.save_as("the same", (1, "one", 1), (5, "e", 5))
        self.fails(NothingToCommit, "pick", "main")
        self.fails(NothingToCommit, "pick", "@")
        self.do("undo", "@")
        self.fails(NothingToCommit, "undo", "@~")

    def test_an_unsound_result(self):
        self.do("alter_table", "wares", UNIQUE)
        self.do("commit", "unique")
        self.save_as("one", (4, "d", 44))
        self.do("reset", "@~")
        self.do("add_tag", "one", ":" + str(self.world.addresses[-1]))
        self.save_as("two", (5, "e", 44))
        self.fails(Unsound, "pick", "one")
        self.do("put_rows", "wares", [(5, "e", 45)])
        self.do("commit", "three")
        self.do("pick", "one")
        self.fails(Unsound, "undo", "@~")

    def test_links(self):
        self.do("create_table", "more", LINKED)
        self.do("put_rows", "more", [(1, "x", 1)])
        self.do("commit", "more")
        self.fails(Unsound, "undo", "@~")
        self.do("undo", "@")
        self.do("undo", "side")

    def test_the_order_of_the_errors(self):
        here, _, _ = self.both_lines()
        for name in ("pick", "undo", "replay"):
            self.do("put_rows", "wares", [(9, "z", 9)])
            for version in NOT_VERSIONS:
                self.fails(InvalidVersion, name, version)
            for version in NOT_COMMITS:
                self.fails(UnknownVersion, name, version)
            self.fails(NotClean, name, "@")
            self.fails(NotClean, name, ":" + str(here))
            self.fails(NotClean, name, ":" + str(self.root))
            self.do("reset", "@")
        self.save_as("more", (6, "f", 6))
        self.do("checkout", "side")
        self.save_as("other", (6, "f", 7))
        self.do("merge", "main")
        for name in ("pick", "undo", "replay"):
            self.fails(NotClean, name, "main")


class ReplayTest(ReplayingCase):
    def test_replay(self):
        one = self.save_as("one", (1, "one", 1))
        self.save_as("two", (4, "d", 4))
        self.save_as("three", (1, "three", 1))
        self.do("checkout", "side")
        side = self.save_as("side", (2, "side", 2))
        self.do("checkout", "main")
        found = self.do("replay", "side")
        self.assertEqual(len(found), 3)
        self.assertEqual(found, sorted(found))
        for commit, parent, message in zip(found, [side] + found, ("one", "two", "three")):
            self.assertEqual(self.read(commit)[1:], ((parent,), message))
        self.assertEqual(self.desk.branches, {"main": found[-1], "side": side})
        self.assertEqual(self.rows("wares"), [(1, "three", 1), (2, "side", 2), (3, "c", 3), (4, "d", 4)])
        self.assertIs(self.desk.is_clean(), True)
        self.assertNotIn(one, found)

    def test_commits_that_are_passed_over(self):
        self.save_as("one", (1, "one", 1))
        self.save_as("two", (4, "d", 4))
        self.save_as("back", (1, "a", 1))
        self.save_as("three", (5, "e", 5))
        self.do("checkout", "side")
        side = self.save_as("side", (1, "one", 1), (5, "e", 5))
        self.do("checkout", "main")
        # The first one brings nothing new. Against it, `back` changes the row. The last one brings nothing new either.
        found = self.do("replay", "side")
        self.assertEqual([self.read(commit)[2] for commit in found], ["two", "back"])
        self.assertEqual(self.read(found[0])[1], (side,))
        self.assertEqual(self.rows("wares"), [(1, "a", 1), (2, "b", 2), (3, "c", 3), (4, "d", 4), (5, "e", 5)])

    def test_all_are_passed_over(self):
        self.save_as("one", (1, "one", 1))
        self.save_as("two", (4, "d", 4))
        self.do("checkout", "side")
        side = self.save_as("side", (1, "one", 1), (4, "d", 4))
        self.do("checkout", "main")
        self.assertEqual(self.do("replay", "side"), [])
        self.assertEqual(self.desk.branches, {"main": side, "side": side})

    def test_nothing_to_carry(self):
        one = self.save_as("one", (1, "one", 1))
        self.assertEqual(self.do("replay", "@"), [])
        self.assertEqual(self.desk.branches["main"], one)
        self.do("checkout", "side")
        self.assertEqual(self.do("replay", "main"), [])
        self.assertEqual((self.desk.branches["side"], self.desk.head), (one, ("branch", "side")))
        self.do("checkout", ":" + str(self.root))
        self.assertEqual(self.do("replay", "main"), [])
        self.assertEqual(self.desk.head, ("commit", one))

    def test_onto_an_ancestor(self):
        """The commits are created again as they are: with the same state, parent and message."""
        one = self.save_as("one", (1, "one", 1))
        two = self.save_as("two", (4, "d", 4))
        self.assertEqual(self.do("replay", "side"), [one, two])
        self.assertEqual(self.do("replay", "@~"), [two])
        self.assertEqual(self.do("replay", ":" + str(self.root)), [self.start, one, two])
        self.assertEqual(self.desk.branches["main"], two)
        self.assertEqual(len(commits_in(self.desk.chunks)), 4)

    def test_a_commit_as_the_head(self):
        self.do("checkout", ":" + str(self.start))
        self.save_as("one", (4, "d", 4))
        self.do("checkout", "@")
        self.do("checkout", "side")
        self.save_as("side", (5, "e", 5))
        self.do("checkout", ":" + str(self.world.addresses[2]))
        found = self.do("replay", "side")
        self.assertEqual(self.desk.head, ("commit", found[-1]))

    def test_merges_among_the_commits(self):
        self.both_lines()
        last = self.save_as("last", (6, "f", 6))
        self.fails(NotPickable, "replay", "side~")
        self.fails(NotPickable, "replay", "main~~")
        self.fails(NotPickable, "replay", ":" + str(self.root))
        # The first line of main meets the ancestors of `both`, but not before it those of side.
        self.assertEqual(self.do("replay", "main~"), [last])
        self.fails(NotPickable, "replay", "side")

    def test_the_first_line_alone_is_carried(self):
        self.both_lines()
        self.do("checkout", "side")
        self.save_as("more", (7, "g", 7))
        # The first line of side does not meet the merge; it meets `there`, an ancestor of main.
        found = self.do("replay", "main")
        self.assertEqual([self.read(commit)[2] for commit in found], ["more"])

    def test_conflicts(self):
        self.save_as("one", (4, "d", 4))
        self.save_as("two", (1, "two", 1))
        self.save_as("three", (5, "e", 5))
        self.do("checkout", "side")
        self.save_as("side", (1, "side", 1))
        self.do("checkout", "main")
        self.fails(PickConflict, "replay", "side")
        self.assertEqual(len(commits_in(self.desk.chunks)), 6)

    def test_a_conflict_that_changes_nothing(self):
        self.save_as("one", (1, "one", 1))
        self.do("checkout", "side")
        self.save_as("side", (1, "side", 1))
        self.do("checkout", "main")
        self.fails(PickConflict, "replay", "side")

    def test_unsound_states(self):
        self.do("alter_table", "wares", UNIQUE)
        self.do("commit", "unique")
        self.do("drop_branch", "side")
        self.do("add_branch", "side")
        self.save_as("one", (4, "d", 44))
        self.save_as("two", (4, "d", 45))
        self.do("checkout", "side")
        self.save_as("side", (5, "e", 44))
        self.do("checkout", "main")
        # The last state would be sound again, but not the one before.
        self.fails(Unsound, "replay", "side")

    def test_the_first_commit_decides(self):
        self.do("alter_table", "wares", UNIQUE)
        self.do("commit", "unique")
        self.do("drop_branch", "side")
        self.do("add_branch", "side")
        self.save_as("one", (4, "d", 44))
        self.save_as("two", (1, "two", 1))
        self.do("add_branch", "early")
        self.do("reset", "@~~")
        self.save_as("two", (1, "two", 1))
        self.save_as("one", (4, "d", 44))
        self.do("checkout", "side")
        self.save_as("side", (5, "e", 44), (1, "side", 1))
        self.do("checkout", "early")
        self.fails(Unsound, "replay", "side")
        self.do("checkout", "main")
        self.fails(PickConflict, "replay", "side")

    def test_an_unsound_state_that_is_passed_over(self):
        """A commit that is passed over is not asked whether the state is sound."""
        one = self.save_as("one", (1, "one", 1))
        self.do("checkout", "side")
        self.do("put_rows", "wares", [(1, "one", 1)])
        self.do("create_table", "more", LINKED)
        self.do("put_rows", "more", [(1, "", 99)])
        # No function commits an unsound state, so this commit is written by hand.
        unsound = self.model.create(self.model.working, [self.model.head_commit()], "unsound")
        self.desk.chunks.put(encode(("commit", self.desk.working, (self.start,), "unsound")))
        self.assertTrue(self.world.link())
        self.do("reset", "@")
        self.do("add_tag", "bad", ":" + str(self.world.addresses[unsound]))
        self.do("checkout", "main")
        self.assertEqual(self.do("replay", "bad"), [])
        self.do("reset", ":" + str(one))
        self.save_as("two", (2, "two", 2))
        self.fails(Unsound, "replay", "bad")

    def test_a_long_line(self):
        for count in range(120):
            self.save_as("number " + str(count), (count % 7, "n" + str(count), count))
        self.do("checkout", "side")
        self.save_as("side", (90, "side", 2))
        self.do("checkout", "main")
        found = replay(self.desk, "side")
        self.model.replay("side")
        self.assertTrue(self.world.link())
        self.assert_same()
        self.assertEqual(len(found), 120)

    def test_the_list_belongs_to_the_caller(self):
        self.save_as("one", (1, "one", 1))
        replay(self.desk, "side").clear()
        self.assertEqual(self.do("replay", "side"), [self.desk.branches["main"]])


if __name__ == "__main__":
    unittest.main()
