"""Points 2 and 46 to 57: calls at random, held against the model."""

import collections
import random
import unittest

from tests.desks import DeskCase
from tests.driver import random_call


class RandomCallsTest(DeskCase):
    def test_random_calls(self):
        told = collections.Counter()
        for seed in range(25):
            self.setUp()
            rng = random.Random(seed)
            for _ in range(300):
                name, args = random_call(rng, self.model)
                more = {"version": "@~"} if name == "ask" and rng.random() < 0.3 else {}
                found = self.do(name, *args, **more)
                told[name, self.sort_of(name, found)] += 1
            self.assert_closed()
        for wanted in WANTED:
            self.assertGreater(told[wanted], 0, (wanted, told))

    def sort_of(self, name, found):
        """What a call led to, in a word."""
        if isinstance(found, type):
            return found.__name__
        if isinstance(found, tuple) and isinstance(found[0], type):
            return found[0].__name__
        return found if name == "merge" else "done" if found != [] else "empty"


# What must have happened at least once, so that the calls are worth their time.
WANTED = [
    ("merge", "same"), ("merge", "forward"), ("merge", "joined"), ("merge", "conflicts"), ("merge", "NotClean"),
    ("settle", "done"), ("settle", "UnknownConflict"), ("abort", "done"), ("abort", "NotMerging"), ("commit", "done"),
    ("commit", "UnresolvedConflicts"), ("commit", "NothingToCommit"), ("commit", "Unsound"), ("pick", "done"), ("pick", "PickConflict"),
    ("pick", "NothingToCommit"), ("pick", "NotPickable"), ("undo", "done"), ("undo", "PickConflict"), ("undo", "NotPickable"),
    ("replay", "done"), ("replay", "empty"), ("replay", "NotPickable"), ("replay", "PickConflict"), ("blame", "done"),
    ("blame", "UnknownTable"), ("blame", "MissingRow"), ("bisect", "done"), ("bisect", "NotBroken"), ("bisect", "NoPath"),
    ("bisect", "SyntaxFault"), ("checkout", "done"), ("checkout", "UnknownVersion"), ("checkout", "InvalidVersion"),
    ("checkout", "NotClean"), ("add_branch", "DuplicateName"), ("add_tag", "InvalidName"), ("drop_branch", "HeadBranch"),
    ("drop_branch", "done"), ("drop_tag", "done"), ("alter_table", "KeyChanged"), ("update_rows", "done"), ("ask", "done"),
    ("update_rows", "InvalidQuery"), ("put_rows", "DuplicateKey"), ("log", "done"),
]


if __name__ == "__main__":
    unittest.main()
