"""Points 33, 34 and 35: ancestors, merge bases, first lines."""

import itertools
import random
import unittest

from tests.support import new_chunks
from versiontables.chunks import Chunks
from versiontables.commits import read_commit, root_commit, write_commit
from versiontables.errors import MissingChunk
from versiontables.graph import ancestors, first_line, is_ancestor, merge_base


class History:
    """Commits with messages of their own, and what the document says of them, told a second time."""

    def __init__(self):
        self.chunks = new_chunks()
        self.root = root_commit(self.chunks)
        self.state = read_commit(self.chunks, self.root)[0]
        self.parents = {self.root: ()}

    def add(self, *parents):
        commit = write_commit(self.chunks, self.state, parents, "number " + str(len(self.parents)))
        self.parents[commit] = parents
        return commit

    def line(self, count, start=None):
        commits = [self.root if start is None else start]
        while len(commits) <= count:
            commits.append(self.add(commits[-1]))
        return commits

    def all_ancestors(self):
        """A dict from the commits to the sets of their ancestors."""
        found = {}
        for commit in sorted(self.parents):
            found[commit] = {commit}.union(*[found[parent] for parent in self.parents[commit]])
        return found

    def best(self, first, second, found):
        """The best common ancestors of two commits, in ascending order."""
        common = found[first] & found[second]
        return [one for one in sorted(common) if not any(one in found[two] for two in common - {one})]


def random_history(seed, count):
    rng = random.Random(seed)
    history = History()
    commits = [history.root]
    while len(commits) < count:
        near = commits[-rng.choice([3, 5]):]
        parents = rng.sample(near, min(len(near), rng.choice([1, 2, 2, 2])))
        commits.append(history.add(*parents))
    return history, commits


class GraphTest(unittest.TestCase):
    def assert_history(self, history):
        """All questions about all commits have the answers of the second telling."""
        chunks = history.chunks
        found = history.all_ancestors()
        for first, second in itertools.product(history.parents, repeat=2):
            self.assertIs(is_ancestor(chunks, first, second), first in found[second])
            self.assertEqual(merge_base(chunks, first, second), history.best(first, second, found)[-1])
        for commit in history.parents:
            self.assertEqual(ancestors(chunks, commit), sorted(found[commit]))
            line = [commit]
            while history.parents[line[-1]]:
                line.append(history.parents[line[-1]][0])
            self.assertEqual(first_line(chunks, commit), line)

    def test_the_root_commit(self):
        history = History()
        self.assert_history(history)
        chunks, root = history.chunks, history.root
        self.assertEqual(ancestors(chunks, root), [root])
        self.assertEqual(first_line(chunks, root), [root])
        self.assertEqual(merge_base(chunks, root, root), root)
        self.assertIs(is_ancestor(chunks, root, root), True)

    def test_one_line(self):
        history = History()
        commits = history.line(6)
        self.assert_history(history)
        self.assertEqual(ancestors(history.chunks, commits[3]), commits[:4])
        self.assertEqual(first_line(history.chunks, commits[3]), commits[3::-1])
        self.assertEqual(merge_base(history.chunks, commits[5], commits[2]), commits[2])
        self.assertEqual(merge_base(history.chunks, commits[2], commits[5]), commits[2])
        self.assertIs(is_ancestor(history.chunks, commits[2], commits[5]), True)
        self.assertIs(is_ancestor(history.chunks, commits[5], commits[2]), False)

    def test_two_lines(self):
        history = History()
        fork = history.line(2)[-1]
        one, two = history.line(3, fork), history.line(5, fork)
        self.assert_history(history)
        for first, second in itertools.product(one[1:], two[1:]):
            self.assertEqual(merge_base(history.chunks, first, second), fork)
            self.assertIs(is_ancestor(history.chunks, first, second), False)
        both = history.add(one[2], two[4])
        turned = history.add(two[4], one[2])
        self.assert_history(history)
        self.assertEqual(merge_base(history.chunks, both, one[3]), one[2])
        self.assertEqual(merge_base(history.chunks, two[5], both), two[4])
        self.assertEqual(first_line(history.chunks, both)[:3], [both, one[2], one[1]])
        self.assertEqual(first_line(history.chunks, turned)[:3], [turned, two[4], two[3]])

    def test_lines_that_cross(self):
        """Two best common ancestors: the one with the greater address is the merge base."""
        history = History()
        left, right = history.add(history.root), history.add(history.root)
        one, two = history.add(left, right), history.add(right, left)
        self.assertEqual(history.best(one, two, history.all_ancestors()), [left, right])
        self.assertEqual(merge_base(history.chunks, one, two), right)
        self.assertEqual(merge_base(history.chunks, two, one), right)
        further, other = history.line(3, one)[-1], history.line(2, two)[-1]
        self.assertEqual(merge_base(history.chunks, further, other), right)
        three, four = history.add(further, other), history.add(other, further)
        self.assertEqual(merge_base(history.chunks, three, four), max(further, other))
        self.assert_history(history)

    def test_three_best_common_ancestors(self):
        history = History()
        roots = [history.add(history.root) for _ in range(3)]
        one = history.add(history.add(roots[2], roots[0]), roots[1])
        two = history.add(history.add(roots[1], roots[2]), roots[0])
        self.assertEqual(history.best(one, two, history.all_ancestors()), roots)
        self.assertEqual(merge_base(history.chunks, one, two), roots[2])
        self.assert_history(history)

    def test_the_same_parent_twice(self):
        history = History()
        one = history.add(history.root)
        two = history.add(one, one)
        self.assertEqual(ancestors(history.chunks, two), [history.root, one, two])
        self.assert_history(history)

    def test_random_histories(self):
        crossed = 0
        for seed in range(25):
            history, commits = random_history(seed, 18)
            self.assert_history(history)
            found = history.all_ancestors()
            crossed += sum(len(history.best(*pair, found)) > 1 for pair in itertools.combinations(commits, 2))
        self.assertGreater(crossed, 50)

    def test_long_histories(self):
        history = History()
        line = history.line(2000)
        chunks = history.chunks
        side = history.line(1600, line[300])
        self.assertEqual(ancestors(chunks, line[-1]), line)
        self.assertEqual(first_line(chunks, line[-1]), line[::-1])
        self.assertEqual(first_line(chunks, side[-1]), side[::-1] + line[299::-1])
        self.assertEqual(merge_base(chunks, line[-1], side[-1]), line[300])
        self.assertEqual(merge_base(chunks, line[0], line[-1]), line[0])
        self.assertEqual(merge_base(chunks, line[-1], line[5]), line[5])
        self.assertIs(is_ancestor(chunks, line[0], side[-1]), True)
        self.assertIs(is_ancestor(chunks, line[301], side[-1]), False)
        both = history.add(side[-1], line[-1])
        self.assertEqual(len(ancestors(chunks, both)), 3602)
        self.assertEqual(first_line(chunks, both)[1:], first_line(chunks, side[-1]))

    def test_a_long_history_of_merges(self):
        """The number of ways from a commit to another one must not count, only that of the commits."""
        history = History()
        left, right = history.add(history.root), history.add(history.root)
        for _ in range(800):
            left, right = history.add(left, right), history.add(right, left)
        self.assertEqual(len(ancestors(history.chunks, left)), 1602)
        self.assertEqual(len(first_line(history.chunks, left)), 802)
        self.assertIs(is_ancestor(history.chunks, right, left), False)
        self.assertIs(is_ancestor(history.chunks, history.root, left), True)
        self.assertEqual(merge_base(history.chunks, left, right), max(history.parents[left]))

    def test_lists_belong_to_the_caller(self):
        history = History()
        commits = history.line(3)
        for function in (ancestors, first_line):
            function(history.chunks, commits[-1]).clear()
            self.assertEqual(len(function(history.chunks, commits[-1])), 4)

    def test_a_commit_that_is_not_held(self):
        history = History()
        commits = history.line(4)
        other = history.line(2, commits[1])[-1]
        missing = len(history.chunks.book) + 7
        for call in (
            lambda: ancestors(history.chunks, missing),
            lambda: first_line(history.chunks, missing),
            lambda: is_ancestor(history.chunks, history.root, missing),
            lambda: merge_base(history.chunks, missing, commits[-1]),
            lambda: merge_base(history.chunks, commits[-1], missing),
        ):
            with self.assertRaises(MissingChunk) as caught:
                call()
            self.assertEqual(caught.exception.address, missing)
        history.chunks.drop(commits[3])
        for call in (
            lambda: ancestors(history.chunks, commits[4]),
            lambda: first_line(history.chunks, commits[4]),
            lambda: is_ancestor(history.chunks, history.root, commits[4]),
            lambda: merge_base(history.chunks, commits[4], other),
            lambda: merge_base(history.chunks, other, commits[4]),
        ):
            with self.assertRaises(MissingChunk) as caught:
                call()
            self.assertEqual(caught.exception.address, commits[3])

    def test_nothing_is_put(self):
        history, commits = random_history(3, 12)
        held = history.chunks.addresses()
        known = len(history.chunks.book)
        for one, two in itertools.product(commits, repeat=2):
            merge_base(history.chunks, one, two)
            is_ancestor(history.chunks, one, two)
            first_line(history.chunks, one)
            ancestors(history.chunks, one)
        self.assertEqual(history.chunks.addresses(), held)
        self.assertEqual(len(history.chunks.book), known)
        self.assertEqual(len(Chunks(history.chunks.book)), 0)


if __name__ == "__main__":
    unittest.main()
