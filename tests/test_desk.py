"""Points 46, 47 and 48: the desk."""

import unittest

from tests.support import STAFF, new_chunks
from versiontables.chunks import Chunks
from versiontables.commits import read_commit, root_commit, write_commit
from versiontables.desk import Desk
from versiontables.errors import InvalidVersion, MissingChunk, UnknownVersion, VersionError
from versiontables.states import write_state
from versiontables.tables import write_rows


class DeskTest(unittest.TestCase):
    def setUp(self):
        self.chunks = new_chunks()
        self.desk = Desk(self.chunks)
        self.root = root_commit(self.chunks)
        self.empty = read_commit(self.chunks, self.root)[0]
        self.rows = write_rows(self.chunks, STAFF, [(1, number, "ann") for number in range(30)])
        self.full = write_state(self.chunks, [("staff", STAFF, self.rows)])

    def add(self, message, *parents, state=None):
        return write_commit(self.chunks, self.full if state is None else state, parents, message)

    def assert_unchanged_by(self, error, call):
        desk = self.desk
        before = [dict(desk.branches), dict(desk.tags), dict(desk.fars), desk.head, desk.working, desk.merging, self.chunks.addresses()]
        with self.assertRaises(error):
            call()
        after = [dict(desk.branches), dict(desk.tags), dict(desk.fars), desk.head, desk.working, desk.merging, self.chunks.addresses()]
        self.assertEqual(after, before)


class NewDeskTest(DeskTest):
    def test_a_new_desk(self):
        chunks = new_chunks()
        desk = Desk(chunks)
        self.assertIs(desk.chunks, chunks)
        self.assertEqual(len(chunks), 2)
        self.assertEqual(len(chunks.book), 2)
        commit = desk.head_commit()
        state = desk.head_state()
        self.assertEqual(chunks.addresses(), sorted([commit, state]))
        self.assertEqual(root_commit(chunks), commit)
        self.assertEqual(read_commit(chunks, commit), (state, (), ""))
        self.assertEqual(chunks.get(state), "(t5:state())")
        self.assertEqual(desk.branches, {"main": commit})
        self.assertEqual(desk.tags, {})
        self.assertEqual(desk.fars, {})
        self.assertEqual(desk.head, ("branch", "main"))
        self.assertEqual(desk.working, state)
        self.assertIsNone(desk.merging)
        self.assertIs(desk.is_clean(), True)

    def test_two_desks(self):
        other = Desk(Chunks(self.chunks.book))
        self.assertEqual(other.head_commit(), self.root)
        one = self.add("one", self.root)
        self.desk.move_head(one)
        self.desk.tags["t"] = one
        self.assertEqual(other.branches, {"main": self.root})
        self.assertEqual(other.tags, {})
        self.assertEqual(len(other.chunks), 2)

    def test_a_store_that_holds_chunks(self):
        held = self.chunks.addresses()
        desk = Desk(self.chunks)
        self.assertEqual(self.chunks.addresses(), held)
        self.assertEqual(desk.working, self.empty)


class HeadTest(DeskTest):
    def test_a_branch_as_the_head(self):
        one = self.add("one", self.root)
        self.assertIsNone(self.desk.move_head(one))
        self.assertEqual(self.desk.head, ("branch", "main"))
        self.assertEqual(self.desk.branches, {"main": one})
        self.assertEqual(self.desk.head_commit(), one)
        self.assertEqual(self.desk.head_state(), self.full)
        self.assertEqual(self.desk.working, self.empty)
        self.assertIs(self.desk.is_clean(), False)

    def test_another_branch_as_the_head(self):
        one, two = self.add("one", self.root), self.add("two", self.root, state=self.empty)
        self.desk.branches["side"] = one
        self.desk.head = ("branch", "side")
        self.assertEqual(self.desk.head_commit(), one)
        self.assertEqual(self.desk.head_state(), self.full)
        self.desk.move_head(two)
        self.assertEqual(self.desk.branches, {"main": self.root, "side": two})
        self.assertEqual(self.desk.head, ("branch", "side"))
        self.assertEqual(self.desk.head_state(), self.empty)

    def test_a_commit_as_the_head(self):
        one, two = self.add("one", self.root), self.add("two", self.root)
        self.desk.head = ("commit", one)
        self.assertEqual(self.desk.head_commit(), one)
        self.assertEqual(self.desk.head_state(), self.full)
        self.desk.move_head(two)
        self.assertEqual(self.desk.head, ("commit", two))
        self.assertEqual(self.desk.branches, {"main": self.root})
        self.assertEqual(self.desk.head_commit(), two)
        self.assertEqual(self.desk.working, self.empty)

    def test_is_clean(self):
        one = self.add("one", self.root)
        self.desk.working = self.full
        self.assertIs(self.desk.is_clean(), False)
        self.desk.move_head(one)
        self.assertIs(self.desk.is_clean(), True)
        self.desk.merging = (self.root, [])
        self.assertIs(self.desk.is_clean(), False)
        self.desk.merging = (self.root, [("table", "staff")])
        self.assertIs(self.desk.is_clean(), False)
        self.desk.merging = None
        self.assertIs(self.desk.is_clean(), True)
        self.desk.move_head(self.add("two", one, state=self.empty))
        self.assertIs(self.desk.is_clean(), False)
        self.desk.working = self.empty
        self.assertIs(self.desk.is_clean(), True)

    def test_nothing_is_put(self):
        one = self.add("one", self.root)
        held = self.chunks.addresses()
        self.desk.move_head(one)
        self.desk.head_commit()
        self.desk.head_state()
        self.desk.is_clean()
        self.desk.resolve("main~")
        self.assertEqual(self.chunks.addresses(), held)

    def test_a_commit_that_is_missing(self):
        one = self.add("one", self.root)
        self.desk.move_head(one)
        self.chunks.drop(one)
        for call in (self.desk.head_state, self.desk.is_clean, lambda: self.desk.resolve("@~")):
            with self.assertRaises(MissingChunk) as caught:
                call()
            self.assertEqual(caught.exception.address, one)


class ResolveTest(DeskTest):
    def setUp(self):
        super().setUp()
        self.one = self.add("one", self.root)
        self.two = self.add("two", self.root)
        self.both = self.add("both", self.one, self.two)
        self.tip = self.add("tip", self.both)
        self.desk.branches.update(side=self.both, abcdefghijkl=self.two)
        self.desk.tags.update(first=self.one, where=self.tip)
        self.desk.fars.update(main=self.tip, far=self.two, abcdefghijkl=self.one)

    def assert_resolved(self, text, commit):
        self.assertEqual(self.desk.resolve(text), commit)

    def assert_unknown(self, *texts):
        for text in texts:
            with self.subTest(text):
                self.assert_unchanged_by(UnknownVersion, lambda: self.desk.resolve(text))

    def assert_invalid(self, *texts):
        for text in texts:
            with self.subTest(text):
                self.assert_unchanged_by(InvalidVersion, lambda: self.desk.resolve(text))

    def test_the_head(self):
        self.assert_resolved("@", self.root)
        self.desk.move_head(self.tip)
        self.assert_resolved("@", self.tip)
        self.assert_resolved("main", self.tip)
        self.assert_resolved("@~^", self.two)
        self.desk.head = ("branch", "side")
        self.assert_resolved("@", self.both)
        self.desk.head = ("commit", self.one)
        self.assert_resolved("@", self.one)
        self.assert_resolved("@~", self.root)

    def test_names(self):
        self.assert_resolved("main", self.root)
        self.assert_resolved("side", self.both)
        self.assert_resolved("abcdefghijkl", self.two)
        self.assert_resolved("first", self.one)
        self.assert_resolved("where", self.tip)
        self.assert_unknown("far", "sid", "sides", "head", "a")

    def test_far_branches(self):
        self.assert_resolved("/main", self.tip)
        self.assert_resolved("/far", self.two)
        self.assert_resolved("/abcdefghijkl", self.one)
        self.assert_unknown("/side", "/first", "/a", "/where")

    def test_a_branch_comes_before_a_tag(self):
        self.desk.tags["side"] = self.one
        self.assert_resolved("side", self.both)
        del self.desk.branches["side"]
        self.assert_resolved("side", self.one)

    def test_addresses(self):
        for commit in (self.root, self.one, self.two, self.both, self.tip):
            self.assert_resolved(":" + str(commit), commit)
        self.assert_resolved(":" + str(self.tip) + "~^", self.two)
        # Commits count although nothing names them any more.
        lonely = self.add("lonely", self.root)
        self.assert_resolved(":" + str(lonely), lonely)

    def test_addresses_of_other_chunks(self):
        others = [address for address in self.chunks.addresses() if "t6:commit" not in self.chunks.get(address)]
        self.assertTrue({self.empty, self.full, self.rows} < set(others))
        others += [self.chunks.put(text) for text in ("n", "t6:commit", "()", "(t6:commit)", "i5;")]
        self.assert_unknown(*[":" + str(address) for address in others])
        self.assert_unknown(":" + str(self.full) + "~")

    def test_addresses_of_chunks_that_are_not_held(self):
        self.assert_unknown(":" + str(len(self.chunks.book) + 1), ":" + "9" * 18, ":1" + "0" * 17)
        lonely = self.add("lonely", self.root)
        self.chunks.drop(lonely)
        self.assert_unknown(":" + str(lonely), ":" + str(lonely) + "~")
        other = Chunks(self.chunks.book)
        elsewhere = write_commit(other, self.full, (self.root,), "elsewhere")
        self.assert_unknown(":" + str(elsewhere))
        self.assertEqual(Desk(other).resolve(":" + str(elsewhere)), elsewhere)

    def test_steps(self):
        for text, commit in (
            ("side~", self.one), ("side^", self.two), ("side~~", self.root), ("side^~", self.root), ("/main~", self.both),
            ("where~^", self.two), ("first~", self.root), ("/far~", self.root), ("where~~~", self.root),
        ):
            self.assert_resolved(text, commit)
        self.assert_unknown("main~", "@~", "@^", "first^", "side~^", "side^^", "where^", "/far^", "where~~~~", ":" + str(self.root) + "~")

    def test_invalid_texts_come_first(self):
        self.assert_invalid("", "~", "nowhere ", "nowhere~x", "Nowhere", ":0", ":07", "/", ":", "main~ ", "@main", "@@", "//main")
        self.assert_invalid(":" + "9" * 19, "nowhereatalls", "/nowhereatalls", "nowhere" + "~" * 54, "main" + "~" * 57, "@~~/")
        self.assert_unknown("nowhere" + "~" * 53, "main" + "~" * 56)

    def test_the_errors(self):
        for text in ("", "nowhere"):
            with self.assertRaises(VersionError):
                self.desk.resolve(text)


if __name__ == "__main__":
    unittest.main()
