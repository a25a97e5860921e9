"""Points 47 and 64: what a desk names, and sweeping."""

import random
import unittest

from tests.desks import WARES, DeskCase, commits_in
from tests.driver import random_call
from tests.support import new_chunks
from tests.test_closure import long_history
from versiontables.closure import closure
from versiontables.desk import Desk
from versiontables.errors import MissingChunk
from versiontables.sweeping import named, sweep


class SweepingCase(DeskCase):
    def setUp(self):
        super().setUp()
        self.do("create_table", "wares", WARES)
        self.one = self.save_as("one", *[(number, "n", number) for number in range(30)])

    def sweep(self):
        """Sweep the desk; return the number of chunks that went."""
        before = self.desk.chunks.addresses()
        names = named(self.desk)
        kept = closure(self.desk.chunks, names)
        self.assertEqual(sweep(self.desk), len(kept))
        self.assertEqual(self.desk.chunks.addresses(), kept)
        self.assertEqual(named(self.desk), names)
        self.model.sweep()
        self.assert_same()
        self.assert_closed()
        return len(before) - len(kept)


class NamedTest(SweepingCase):
    def test_a_new_desk(self):
        desk = Desk(new_chunks())
        self.assertEqual(named(desk), sorted([desk.head_commit(), desk.working]))

    def test_branches_tags_and_far_branches(self):
        two, three, four = (self.save_as("n" + str(number), (number, "x", 0)) for number in (2, 3, 4))
        self.do("add_branch", "side", ":" + str(two))
        self.do("add_tag", "tag", ":" + str(three))
        self.do("add_tag", "again", ":" + str(two))
        self.assertEqual(named(self.desk), sorted([two, three, four, self.desk.working]))
        self.desk.fars = {"away": self.one, "far": two}
        self.assertEqual(named(self.desk), sorted([self.one, two, three, four, self.desk.working]))

    def test_the_head_and_the_working_state(self):
        self.do("checkout", "@~")
        self.assertEqual(named(self.desk), sorted([self.root, self.one, self.desk.working]))
        self.do("create_table", "more", WARES)
        self.assertEqual(named(self.desk), sorted([self.root, self.one, self.desk.working]))
        self.assertNotEqual(self.desk.working, self.desk.head_state())

    def test_an_open_merge(self):
        self.do("checkout", "main~")
        self.do("create_table", "others", WARES)
        other = self.do("commit", "others")
        self.do("checkout", "main")
        self.assertEqual(self.do("merge", ":" + str(other)), "joined")
        self.assertEqual(named(self.desk), sorted([self.one, other, self.desk.working]))
        self.do("abort")
        self.assertEqual(named(self.desk), sorted([self.one, self.desk.working]))

    def test_the_list_belongs_to_the_caller(self):
        named(self.desk).clear()
        self.assertEqual(named(self.desk), sorted([self.one, self.desk.working]))


class SweepTest(SweepingCase):
    def test_edits_that_were_never_committed(self):
        self.sweep()
        self.do("put_rows", "wares", [(100, "z", 1)])
        self.do("put_rows", "wares", [(101, "z", 1)])
        self.assertGreater(self.sweep(), 0)
        self.assertEqual(len(self.rows("wares")), 32)
        self.do("reset", "@")
        self.assertGreater(self.sweep(), 0)
        self.assertEqual(self.sweep(), 0)

    def test_commits_without_a_name(self):
        two = self.save_as("two", (2, "x", 0))
        three = self.save_as("three", (3, "x", 0))
        self.do("reset", "@~~")
        self.do("add_tag", "tag", ":" + str(two))
        self.sweep()
        self.assertEqual(commits_in(self.desk.chunks), [self.root, self.one, two])
        self.do("checkout", "tag")
        self.do("drop_tag", "tag")
        self.sweep()
        self.assertEqual(commits_in(self.desk.chunks), [self.root, self.one, two])
        self.do("checkout", "main")
        self.sweep()
        self.assertEqual(commits_in(self.desk.chunks), [self.root, self.one])
        # What was dropped may be made again.
        self.assertEqual(self.save_as("two", (2, "x", 0)), two)
        self.assertEqual(self.save_as("three", (3, "x", 0)), three)

    def test_far_branches(self):
        two = self.save_as("two", (2, "x", 0))
        self.do("reset", "@~")
        self.desk.fars = {"away": two}
        self.model.fars = {"away": self.model.resolve(":" + str(two))}
        self.sweep()
        self.assertEqual(self.do("merge", "/away"), "forward")

    def test_a_head_that_is_a_commit(self):
        self.do("checkout", "@")
        two = self.save_as("two", (2, "x", 0))
        self.do("drop_branch", "main")
        self.sweep()
        self.assertEqual(commits_in(self.desk.chunks), [self.root, self.one, two])
        self.do("reset", "@~~")
        self.sweep()
        self.assertEqual(self.desk.chunks.addresses(), sorted([self.root, self.desk.working]))

    def test_an_open_merge(self):
        self.do("checkout", ":" + str(self.root))
        self.do("create_table", "wares", WARES)
        other = self.save_as("other", (1, "x", 0))
        self.do("checkout", "main")
        self.assertEqual(self.do("merge", ":" + str(other)), "conflicts")
        self.do("put_rows", "wares", [(500, "new", 0)])
        self.sweep()
        self.assertEqual(self.do("settle", 0, "theirs"), 0)
        self.sweep()
        self.do("commit", "both")
        self.assertEqual(self.sweep(), 0)
        self.assertEqual(len(commits_in(self.desk.chunks)), 4)

    def test_a_long_history(self):
        chunks = self.desk.chunks
        commit = long_history(chunks, 1500)
        self.desk.branches["long"] = commit
        count = sweep(self.desk)
        self.assertEqual(count, len(closure(chunks, [commit, self.one])))
        self.assertEqual(sweep(self.desk), count)
        del self.desk.branches["long"]
        self.assertEqual(sweep(self.desk), len(closure(chunks, [self.one])))

    def test_a_store_that_lacks_a_chunk(self):
        self.save_as("two", (2, "x", 0))
        self.do("reset", "@~")
        text = self.desk.chunks.get(self.one)
        self.desk.chunks.drop(self.one)
        held = self.desk.chunks.addresses()
        with self.assertRaises(MissingChunk) as caught:
            sweep(self.desk)
        self.assertEqual(caught.exception.address, self.one)
        self.assertEqual(self.desk.chunks.addresses(), held)
        self.desk.chunks.put(text)

    def test_random_calls(self):
        for seed in range(8):
            self.begin()
            rng = random.Random(seed)
            for _ in range(120):
                name, args = random_call(rng, self.model)
                self.do(name, *args)
                if rng.random() < 0.1:
                    self.sweep()


if __name__ == "__main__":
    unittest.main()
