"""Points 32 and 33: the chunks of commits."""

import itertools
import unittest

from tests.support import STAFF, new_chunks, written
from versiontables.chunks import Chunks
from versiontables.commits import holds_commit, read_commit, root_commit, write_commit
from versiontables.errors import MissingChunk
from versiontables.states import read_state, write_state
from versiontables.tables import write_rows


class CommitsTest(unittest.TestCase):
    def setUp(self):
        self.chunks = new_chunks()
        self.root = root_commit(self.chunks)
        self.empty = write_state(self.chunks, [])
        self.rows = write_rows(self.chunks, STAFF, [(1, 2, "ann")])
        self.full = write_state(self.chunks, [("staff", STAFF, self.rows)])

    def test_what_was_given(self):
        other = write_commit(self.chunks, self.full, (self.root,), "other")
        for state in (self.empty, self.full):
            for parents in ((self.root,), (other,), (self.root, other), (other, self.root), (other, other)):
                for message in ("", "m", "a message: (t5:state())", " " * 60):
                    commit = write_commit(self.chunks, state, parents, message)
                    self.assertEqual(read_commit(self.chunks, commit), (state, parents, message))
                    text = written(("commit", state, parents, message))
                    self.assertEqual(self.chunks.get(commit), text)
                    self.assertEqual(self.chunks.book.find(text), commit)
                    self.assertGreater(commit, max(parents))

    def test_the_text_of_a_chunk(self):
        commit = write_commit(self.chunks, 12, (3, 45), "two lines")
        self.assertEqual(self.chunks.get(commit), "(t6:commiti12;(i3;i45;)t9:two lines)")

    def test_one_address_just_for_equal_commits(self):
        one = write_commit(self.chunks, self.empty, (self.root,), "one")
        parents = [(self.root,), (one,), (self.root, one), (one, self.root), (one, one)]
        given = list(itertools.product([self.empty, self.full], parents, ["", "one", "two", "onet"]))
        found = {}
        for commit in given + given[::-1]:
            found.setdefault(write_commit(self.chunks, *commit), []).append(commit)
        self.assertEqual(len(found), len(given))
        self.assertTrue(all(one == two for one, two in found.values()))

    def test_two_stores(self):
        other = Chunks(self.chunks.book)
        self.assertEqual(root_commit(other), self.root)
        first = write_commit(self.chunks, self.full, (self.root,), "m")
        self.assertFalse(other.has(first))
        self.assertEqual(write_commit(other, self.full, (self.root,), "m"), first)

    def test_the_root_commit(self):
        for _ in range(3):
            self.assertEqual(root_commit(self.chunks), self.root)
        self.assertEqual(read_commit(self.chunks, self.root), (self.empty, (), ""))
        self.assertEqual(read_state(self.chunks, self.empty), [])
        self.assertEqual(write_commit(self.chunks, self.empty, (), ""), self.root)
        chunks = new_chunks()
        root = root_commit(chunks)
        self.assertEqual(len(chunks), 2)
        self.assertEqual(len(chunks.book), 2)
        state = read_commit(chunks, root)[0]
        self.assertEqual(chunks.addresses(), sorted([state, root]))
        self.assertEqual(chunks.get(state), "(t5:state())")
        self.assertEqual(chunks.get(root), "(t6:commiti" + str(state) + ";()t0:)")

    def test_a_commit_that_is_not_held(self):
        commit = write_commit(self.chunks, self.full, (self.root,), "m")
        self.chunks.drop(commit)
        for address in (commit, len(self.chunks.book) + 1, 10 ** 17):
            with self.assertRaises(MissingChunk) as caught:
                read_commit(self.chunks, address)
            self.assertEqual(caught.exception.address, address)

    def test_which_chunks_are_commits(self):
        commit = write_commit(self.chunks, self.full, (self.root,), "m")
        others = ["n", "t6:commit", "i0;", "()", written(("commit",)), written(("state", 1, 2, 3))]
        others = [self.chunks.put(text) for text in others] + [self.empty, self.full, self.rows]
        self.assertIs(holds_commit(self.chunks, commit), True)
        self.assertIs(holds_commit(self.chunks, self.root), True)
        for address in others + [0, len(self.chunks.book) + 1]:
            self.assertIs(holds_commit(self.chunks, address), False)
        self.chunks.drop(commit)
        self.assertIs(holds_commit(self.chunks, commit), False)


if __name__ == "__main__":
    unittest.main()
