"""Points 2 and 47: a chunk that the store of a desk does not hold changes no result; the call may only raise an error."""

import copy
import unittest

from tests.desks import FUNCTIONS, LINKED, WARES, WIDER, commits_in, outcome
from tests.model import desk_told
from tests.support import new_chunks
from versiontables.desk import Desk
from versiontables.errors import MissingChunk

CALLS = {
    "clean": [
        ("ask", "wares | union (wares at 'main~') | limit 3"), ("log", "@"), ("blame", "@", "wares", (3,)),
        ("bisect", "root", "@", "wares | where price > 30"), ("checkout", "main"), ("reset", "main~"), ("merge", "main"),
        ("merge", "third"), ("merge", "side~"), ("pick", "main"), ("pick", "third"), ("undo", "@"), ("replay", "main"),
        ("replay", "third"), ("replay", "side~~"), ("add_branch", "new", "main~"), ("add_tag", "new", "root"), ("commit", "none"),
        ("create_table", "new", WIDER), ("conflicts",),
    ],
    "edited": [
        ("put_rows", "wares", [(3, "new", 3), (100, "new", 100)]), ("remove_rows", "wares", [(3,), (99,)]), ("commit", "more"),
        ("update_rows", "wares", [("price", "price + 1")], "id > 20"), ("remove_where", "wares", "id > 20"), ("drop_table", "wares"),
        ("alter_table", "wares", WIDER), ("alter_table", "wares", LINKED), ("reset", "@"),
    ],
    "merging": [("settle", 0, "theirs"), ("settle", 1, "ours"), ("abort",), ("reset", "@"), ("commit", "no")],
}


def call(desk, name, *args):
    return outcome(FUNCTIONS[name], desk, *args)


class MissingChunksTest(unittest.TestCase):
    def setUp(self):
        self.desk = desk = Desk(new_chunks())
        call(desk, "add_tag", "root")
        call(desk, "create_table", "wares", WARES)
        self.save("start", *[(number, "n", number) for number in range(40)])
        call(desk, "add_branch", "third")
        call(desk, "add_branch", "side")
        self.save("one", (3, "one", 3), (50, "one", 3))
        self.save("two", (4, "two", 4), (39, "two", 2))
        call(desk, "checkout", "third")
        self.save("third", (20, "third", 1), (60, "third", 0))
        call(desk, "checkout", "side")
        self.save("three", (30, "three", 77))
        self.save("four", (3, "four", 3), (39, "four", 2))

    def save(self, message, *rows):
        call(self.desk, "put_rows", "wares", list(rows))
        call(self.desk, "commit", message)

    def try_each(self, calls):
        raised = 0
        for name, *args in calls:
            whole = copy.deepcopy(self.desk)
            wanted = call(whole, name, *args)
            found = [self.try_one(address, name, args, wanted, desk_told(whole)) for address in self.desk.chunks.addresses()]
            raised += found.count(MissingChunk)
        self.assertGreater(raised, 10)

    def try_one(self, missing, name, args, wanted, told):
        desk = copy.deepcopy(self.desk)
        desk.chunks.drop(missing)
        before, commits = desk_told(desk), commits_in(desk.chunks)
        found = call(desk, name, *args)
        if found is MissingChunk:
            self.assertEqual((desk_told(desk), commits_in(desk.chunks)), (before, commits), name)
        else:
            self.assertEqual((found, desk_told(desk)), (wanted, told), name)
        return found

    def test_a_clean_desk(self):
        self.try_each(CALLS["clean"])

    def test_a_desk_that_is_not_clean(self):
        call(self.desk, "put_rows", "wares", [(15, "edited", 1)])
        self.try_each(CALLS["edited"])

    def test_an_open_merge(self):
        self.assertEqual(call(self.desk, "merge", "main"), "conflicts")
        self.try_each(CALLS["merging"])


if __name__ == "__main__":
    unittest.main()
