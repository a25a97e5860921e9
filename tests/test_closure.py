"""Point 58: children and closures."""

import random
import unittest

from tests.model import told_children
from tests.support import STAFF, entries_of, new_chunks, number_keys, tree_addresses
from versiontables.closure import children, closure
from versiontables.codec import encode
from versiontables.commits import commit_state, root_commit, write_commit
from versiontables.errors import MissingChunk
from versiontables.states import write_state
from versiontables.tables import write_rows
from versiontables.trees import build, edit, height


def long_history(chunks, count):
    """A line of commits, each with a state of its own; the address of the last one."""
    form = STAFF
    commit = root_commit(chunks)
    root = build(chunks, [])
    for number in range(count):
        root = edit(chunks, root, [((number % 50,), (number, "n"))])
        commit = write_commit(chunks, write_state(chunks, [("staff", form, root)]), (commit,), "number " + str(number))
    return commit


class ChildrenTest(unittest.TestCase):
    def test_rows(self):
        self.assertEqual(children(encode(("rows", ()))), [])
        self.assertEqual(children(encode(("rows", (((1,), (2, "a")), ((2,), (None, "b")))))), [])

    def test_nodes(self):
        entries = (((5,), 31, 8), ((9,), 7, 2), ((12,), 31, 8))
        for level in (1, 2, 5):
            self.assertEqual(children(encode(("node", level, entries))), [31, 7, 31])

    def test_states(self):
        self.assertEqual(children(encode(("state", ()))), [])
        tables = (("a", STAFF, 12), ("b", STAFF, 3), ("c", STAFF, 12))
        self.assertEqual(children(encode(("state", tables))), [12, 3, 12])

    def test_commits(self):
        self.assertEqual(children(encode(("commit", 1, (), ""))), [1])
        self.assertEqual(children(encode(("commit", 9, (4,), "rows"))), [9, 4])
        self.assertEqual(children(encode(("commit", 9, (12, 4), "node"))), [9, 12, 4])
        self.assertEqual(children(encode(("commit", 9, (4, 4), ""))), [9, 4, 4])

    def test_the_list_belongs_to_the_caller(self):
        text = encode(("commit", 9, (12, 4), ""))
        children(text).clear()
        self.assertEqual(children(text), [9, 12, 4])


class ClosureTest(unittest.TestCase):
    def setUp(self):
        self.chunks = new_chunks()

    def expected(self, addresses):
        found = set(addresses)
        while True:
            more = found.union(*[told_children(self.chunks.get(address)) for address in found])
            if more == found:
                return sorted(found)
            found = more

    def test_nothing(self):
        self.assertEqual(closure(self.chunks, []), [])
        with self.assertRaises(MissingChunk):
            closure(self.chunks, [1])

    def test_a_tree(self):
        entries = entries_of(number_keys(3, 300))
        root = build(self.chunks, entries)
        self.assertGreater(height(self.chunks, root), 2)
        build(self.chunks, entries[:50])
        self.assertEqual(closure(self.chunks, [root]), tree_addresses(self.chunks.book, entries))
        self.assertEqual(closure(self.chunks, [root, root]), tree_addresses(self.chunks.book, entries))

    def test_all_kinds(self):
        rows = write_rows(self.chunks, STAFF, [(1, number, "ann") for number in range(40)])
        less = write_rows(self.chunks, STAFF, [(1, number, "ann") for number in range(39)])
        state = write_state(self.chunks, [("a", STAFF, rows), ("b", STAFF, less), ("c", STAFF, rows)])
        other = write_state(self.chunks, [("a", STAFF, less)])
        root = root_commit(self.chunks)
        one = write_commit(self.chunks, state, (root,), "one")
        two = write_commit(self.chunks, other, (root,), "two")
        both = write_commit(self.chunks, state, (one, two), "both")
        for addresses in ([rows], [state], [other], [root], [one], [two], [both], [two, state], [rows, less, one], [both, root]):
            kept = list(addresses)
            self.assertEqual(closure(self.chunks, addresses), self.expected(addresses))
            self.assertEqual(addresses, kept)
        self.assertEqual(closure(self.chunks, [both]), self.chunks.addresses())
        self.assertEqual(closure(self.chunks, [root]), sorted([root, commit_state(self.chunks, root)]))

    def test_a_long_history(self):
        commit = long_history(self.chunks, 1500)
        found = closure(self.chunks, [commit])
        self.assertEqual(found, sorted(set(found)))
        held = self.chunks.addresses()
        # All chunks but that of the empty tree lead to the last commit.
        self.assertEqual(len(held) - len(found), 1)
        self.assertEqual(self.chunks.get((set(held) - set(found)).pop()), "(t4:rows())")

    def test_many_ways(self):
        """The number of chunks counts, not that of the ways to them."""
        left = right = root_commit(self.chunks)
        state = commit_state(self.chunks, left)
        for number in range(400):
            left, right = (write_commit(self.chunks, state, (left, right), side + str(number)) for side in "lr")
        self.assertEqual(len(closure(self.chunks, [left])), 2 + 2 * 399 + 1)

    def test_missing_chunks(self):
        commit = long_history(self.chunks, 5)
        all_of_it = closure(self.chunks, [commit])
        for address in all_of_it:
            text = self.chunks.get(address)
            self.chunks.drop(address)
            with self.assertRaises(MissingChunk) as caught:
                closure(self.chunks, [commit])
            self.assertEqual(caught.exception.address, address)
            self.chunks.put(text)
        with self.assertRaises(MissingChunk) as caught:
            closure(self.chunks, [commit, 99999])
        self.assertEqual(caught.exception.address, 99999)
        self.assertEqual(closure(self.chunks, [commit]), all_of_it)

    def test_nothing_changes(self):
        commit = long_history(self.chunks, 5)
        held, known = self.chunks.addresses(), len(self.chunks.book)
        closure(self.chunks, [commit]).clear()
        self.assertEqual((self.chunks.addresses(), len(self.chunks.book)), (held, known))

    def test_random_addresses(self):
        long_history(self.chunks, 40)
        rng = random.Random(5)
        for _ in range(30):
            addresses = rng.sample(self.chunks.addresses(), rng.randrange(1, 5))
            self.assertEqual(closure(self.chunks, addresses), self.expected(addresses))


if __name__ == "__main__":
    unittest.main()
