"""Points 21, 32, 46, 48 and 50: commits, branches, tags, and moving between them."""

import unittest

from tests.desks import LINKED, UNIQUE, WARES, DeskCase, commits_in
from versiontables.commits import read_commit
from versiontables.errors import (
    DuplicateName, HeadBranch, InvalidName, InvalidVersion, NotClean, NothingToCommit, UnknownName, UnknownVersion,
    UnresolvedConflicts, Unsound,
)

NOT_NAMES = ("", "Side", "a b", "abcdefghijklm", "a1", "@", "side~")
NOT_VERSIONS = ("", "Main", "main ", "~", ":0", "@@", "nowhereatalls", "/nowhere~x", "main" + "~" * 57)
NOT_COMMITS = ("nowhere", "/main", ":999999", "main~~~~", "@^", "nowhere~")


class CommitTest(DeskCase):
    def setUp(self):
        super().setUp()
        self.do("create_table", "wares", WARES)
        self.one = self.save_as("one", (1, "a", 1))

    def read(self, commit):
        return read_commit(self.desk.chunks, commit)

    def test_a_commit(self):
        self.assertEqual(self.read(self.one), (self.desk.working, (self.root,), "one"))
        self.do("put_rows", "wares", [(2, "b", 2)])
        two = self.do("commit", "")
        self.assertEqual(self.read(two), (self.desk.working, (self.one,), ""))
        self.assertEqual(self.desk.branches, {"main": two})
        self.assertEqual(self.desk.head, ("branch", "main"))
        self.do("remove_rows", "wares", [(2,)])
        long = self.do("commit", "~ message of 60 characters" + "." * 34)
        self.assertEqual(self.read(long)[1:], ((two,), "~ message of 60 characters" + "." * 34))
        self.assertEqual(self.read(long)[0], self.read(self.one)[0])

    def test_without_a_change(self):
        self.fails(NothingToCommit, "commit", "again")
        self.do("put_rows", "wares", [(2, "b", 2)])
        self.do("remove_rows", "wares", [(2,)])
        self.fails(NothingToCommit, "commit", "again")
        self.begin()
        self.fails(NothingToCommit, "commit", "")

    def test_a_commit_as_the_head(self):
        self.do("checkout", ":" + str(self.one))
        two = self.save_as("two", (2, "b", 2))
        self.assertEqual(self.desk.head, ("commit", two))
        self.assertEqual(self.desk.branches, {"main": self.one})

    def test_an_unsound_state(self):
        self.do("alter_table", "wares", UNIQUE)
        self.do("put_rows", "wares", [(2, "b", 1)])
        self.fails(Unsound, "commit", "twice")
        self.do("put_rows", "wares", [(2, "b", 2)])
        self.do("create_table", "more", LINKED)
        self.do("put_rows", "more", [(1, "", 5)])
        self.fails(Unsound, "commit", "no such row")
        self.do("put_rows", "more", [(1, "", 2)])
        self.do("commit", "sound")
        self.do("drop_table", "wares")
        self.fails(Unsound, "commit", "no target")

    def test_an_unsound_state_that_is_clean(self):
        """NothingToCommit comes before Unsound: fetched commits may be unsound, too, if they were written so."""
        self.do("put_rows", "wares", [(2, "b", 2)])
        self.do("create_table", "more", LINKED)
        self.do("put_rows", "more", [(1, "", 7)])
        unsound = self.world.create(self.model.working, [self.model.head_commit()], "unsound")
        self.world.link()
        self.desk.chunks.put(self.world.scratch.get(self.world.addresses[unsound]))
        self.model.held.add(unsound)
        self.do("reset", ":" + str(self.world.addresses[unsound]))
        self.fails(NothingToCommit, "commit", "clean")
        self.do("put_rows", "wares", [(3, "c", 3)])
        self.fails(Unsound, "commit", "changed")

    def test_open_conflicts(self):
        self.do("add_branch", "side")
        main = self.save_as("here", (1, "here", 1), (5, "x", 5))
        self.do("checkout", "side")
        side = self.save_as("there", (1, "there", 1))
        self.assertEqual(self.do("merge", "main"), "conflicts")
        self.do("create_table", "more", LINKED)
        self.do("put_rows", "more", [(1, "", 99)])
        # Each error that applies comes in its order.
        self.fails(UnresolvedConflicts, "commit", "both")
        self.do("settle", 0, "theirs")
        self.fails(Unsound, "commit", "both")
        self.do("drop_table", "more")
        both = self.do("commit", "both")
        self.assertEqual(self.read(both), (self.desk.working, (side, main), "both"))
        self.assertIsNone(self.desk.merging)
        self.assertEqual(self.desk.branches, {"main": main, "side": both})
        self.fails(NothingToCommit, "commit", "again")

    def test_an_open_merge_without_a_change(self):
        """A desk with an open merge is not clean, although the state is that of the head."""
        self.do("add_branch", "side")
        main = self.save_as("here", (2, "b", 2))
        self.do("checkout", "side")
        side = self.save_as("there", (2, "b", 2))
        self.assertEqual(self.do("merge", "main"), "joined")
        self.assertEqual(self.desk.working, self.desk.head_state())
        both = self.do("commit", "both")
        self.assertEqual(self.read(both), (self.read(side)[0], (side, main), "both"))
        self.fails(NothingToCommit, "commit", "again")

    def test_the_same_commit_again(self):
        two = self.save_as("two", (2, "b", 2))
        known = len(self.book)
        self.do("reset", "@~")
        self.assertEqual(self.save_as("two", (2, "b", 2)), two)
        self.assertEqual(len(self.book), known)
        self.do("reset", "@~")
        other = self.save_as("another message", (2, "b", 2))
        self.assertGreater(other, two)
        self.assertEqual(self.read(other)[:2], self.read(two)[:2])
        self.do("checkout", ":" + str(self.root))
        self.do("create_table", "wares", WARES)
        self.assertEqual(self.save_as("one", (1, "a", 1)), self.one)
        self.assertEqual(self.desk.head, ("commit", self.one))


class NamesCase(DeskCase):
    def setUp(self):
        super().setUp()
        self.do("create_table", "wares", WARES)
        self.one = self.save_as("one", (1, "a", 1))
        self.two = self.save_as("two", (2, "a", 1))
        self.do("add_branch", "side", "@~")
        self.do("add_tag", "first", "main~~")
        self.desk.fars = {"away": self.one}
        self.model.fars = {"away": self.model.branches["side"]}


class NamesTest(NamesCase):
    def test_add(self):
        for add, names in (("add_branch", "bcdefghij"), ("add_tag", "nopqrstuv")):
            for name, version, commit in zip(
                names, ("@", "main", "side", "first", "/away", ":" + str(self.two), "@~~", "side~", "/away~"),
                (self.two, self.two, self.one, self.root, self.one, self.two, self.root, self.root, self.root),
            ):
                self.assertIsNone(self.do(add, name, version))
                self.assertEqual((self.desk.branches if add == "add_branch" else self.desk.tags)[name], commit)
        self.do("add_branch", "abcdefghijkl")
        self.do("add_tag", "abcdefghijkm")
        self.assertEqual((self.desk.branches["abcdefghijkl"], self.desk.tags["abcdefghijkm"]), (self.two, self.two))
        self.do("add_branch", "named", version="@~")
        # The name of a far branch may be that of a branch or a tag.
        self.do("add_tag", "away")
        self.assertEqual(self.desk.head, ("branch", "main"))

    def test_the_default_is_the_head(self):
        self.do("checkout", ":" + str(self.one))
        self.do("add_branch", "here")
        self.do("add_tag", "there")
        self.assertEqual((self.desk.branches["here"], self.desk.tags["there"]), (self.one, self.one))
        self.assertEqual(self.desk.head, ("commit", self.one))

    def test_errors_of_add(self):
        for add in ("add_branch", "add_tag"):
            for name in NOT_NAMES:
                self.fails(InvalidName, add, name)
                self.fails(InvalidName, add, name, "")
                self.fails(InvalidName, add, name, "nowhere")
            for name in ("main", "side", "first"):
                self.fails(DuplicateName, add, name)
                self.fails(DuplicateName, add, name, "")
                self.fails(DuplicateName, add, name, "nowhere")
            for version in NOT_VERSIONS:
                self.fails(InvalidVersion, add, "new", version)
            for version in NOT_COMMITS:
                self.fails(UnknownVersion, add, "new", version)

    def test_drop(self):
        self.assertIsNone(self.do("drop_branch", "side"))
        self.assertIsNone(self.do("drop_tag", "first"))
        self.assertEqual((self.desk.branches, self.desk.tags), ({"main": self.two}, {}))
        self.do("add_branch", "first")
        self.do("add_tag", "side")

    def test_errors_of_drop(self):
        for name in ("nowhere", "first", "away") + NOT_NAMES:
            self.fails(UnknownName, "drop_branch", name)
        for name in ("nowhere", "main", "side", "away") + NOT_NAMES:
            self.fails(UnknownName, "drop_tag", name)
        self.fails(HeadBranch, "drop_branch", "main")
        self.do("checkout", "side")
        self.fails(HeadBranch, "drop_branch", "side")
        self.do("drop_branch", "main")
        self.do("checkout", "@")
        self.do("drop_branch", "side")
        self.assertEqual((self.desk.branches, self.desk.head), ({}, ("commit", self.one)))
        self.fails(UnknownVersion, "checkout", "side")

    def test_a_branch_and_its_commits(self):
        """A branch that is not the head stays where it is."""
        self.do("checkout", "side")
        three = self.save_as("three", (3, "c", 3))
        self.assertEqual(self.desk.branches, {"main": self.two, "side": three})
        self.assertEqual(self.desk.tags, {"first": self.root})


class MovingTest(NamesCase):
    def test_checkout(self):
        for version, head, commit in (
            ("side", ("branch", "side"), self.one), ("main", ("branch", "main"), self.two), ("first", ("commit", self.root), self.root),
            ("main", ("branch", "main"), self.two), ("@", ("commit", self.two), self.two), ("side~", ("commit", self.root), self.root),
            ("/away", ("commit", self.one), self.one), (":" + str(self.two), ("commit", self.two), self.two),
            ("@~", ("commit", self.one), self.one), ("@", ("commit", self.one), self.one), ("side", ("branch", "side"), self.one),
        ):
            self.assertEqual(self.do("checkout", version), commit)
            self.assertEqual(self.desk.head, head)
            self.assertEqual(self.desk.working, read_commit(self.desk.chunks, commit)[0])
        self.assertEqual(self.desk.branches, {"main": self.two, "side": self.one})

    def test_errors_of_checkout(self):
        for changed in (False, True):
            if changed:
                self.do("put_rows", "wares", [(9, "z", 9)])
            for version in NOT_VERSIONS:
                self.fails(InvalidVersion, "checkout", version)
                self.fails(InvalidVersion, "reset", version)
            for version in NOT_COMMITS:
                self.fails(UnknownVersion, "checkout", version)
                self.fails(UnknownVersion, "reset", version)
        for version in ("main", "side", "@", "first"):
            self.fails(NotClean, "checkout", version)

    def test_reset(self):
        self.do("put_rows", "wares", [(9, "z", 9)])
        self.assertEqual(self.do("reset", "@"), self.two)
        self.assertEqual(self.rows("wares"), [(1, "a", 1), (2, "a", 1)])
        # The head stays the same branch, also if the text is the name of another one.
        self.assertEqual(self.do("reset", "side"), self.one)
        self.assertEqual((self.desk.head, self.desk.branches), (("branch", "main"), {"main": self.one, "side": self.one}))
        self.assertEqual(self.do("reset", ":" + str(self.two)), self.two)
        self.assertEqual(self.do("reset", "first"), self.root)
        self.assertEqual(self.do("reset", "/away"), self.one)
        self.do("checkout", "@")
        self.assertEqual(self.do("reset", "@~"), self.root)
        self.assertEqual((self.desk.head, self.desk.branches), (("commit", self.root), {"main": self.one, "side": self.one}))

    def test_an_open_merge(self):
        self.do("checkout", "side")
        self.save_as("three", (2, "b", 7))
        for text, head in (("@", None), ("side~", self.one), (":" + str(self.two), self.two)):
            commit = self.desk.head_commit()
            self.do("reset", ":" + str(commit))
            if self.do("merge", "main") not in ("joined", "conflicts"):
                continue
            self.fails(NotClean, "checkout", "main")
            self.fails(NotClean, "checkout", "@")
            self.do("settle", 0, "theirs")
            self.assertEqual(self.do("reset", text), head or commit)
            self.assertIsNone(self.desk.merging)
            self.assertEqual(self.do("conflicts"), [])
            self.assertIs(self.desk.is_clean(), True)

    def test_nothing_is_created(self):
        held = commits_in(self.desk.chunks)
        for version in ("side", "@", "main", "first", "/away"):
            self.do("checkout", version)
            self.do("reset", version)
        self.assertEqual(commits_in(self.desk.chunks), held)


if __name__ == "__main__":
    unittest.main()
