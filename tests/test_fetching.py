"""Point 59: fetches."""

import random
import unittest

from tests.model import ModelFetch
from tests.support import STAFF, new_chunks
from tests.test_closure import long_history
from versiontables.chunks import Chunks
from versiontables.closure import children, closure
from versiontables.codec import decode
from versiontables.commits import root_commit, write_commit
from versiontables.fetching import Fetch
from versiontables.states import write_state
from versiontables.tables import write_rows


class FetchTest(unittest.TestCase):
    def setUp(self):
        self.far = new_chunks()
        self.near = Chunks(self.far.book)
        self.rows = write_rows(self.far, STAFF, [(1, number, "ann") for number in range(30)])
        self.state = write_state(self.far, [("staff", STAFF, self.rows)])
        self.root = root_commit(self.far)
        self.empty = children(self.far.get(self.root))[0]
        self.one = write_commit(self.far, self.state, (self.root,), "one")
        self.two = write_commit(self.far, self.state, (self.one,), "two")

    def give(self, fetch, address):
        return fetch.receive(address, self.far.get(address))

    def give_all(self, fetch):
        """Give all that is wanted until nothing is; return the addresses."""
        given = []
        while fetch.wants():
            given.append(fetch.wants()[-1])
            self.assertIs(fetch.finish(), False)
            self.assertIs(self.give(fetch, given[-1]), True)
        return sorted(given)

    def test_nothing_is_held(self):
        fetch = Fetch(self.near, [self.two])
        self.assertEqual(fetch.wants(), [self.two])
        self.assertIs(self.give(fetch, self.two), True)
        self.assertEqual(fetch.wants(), sorted([self.state, self.one]))
        self.assertIs(self.give(fetch, self.one), True)
        # Both commits have the same state: it is wanted once.
        self.assertEqual(fetch.wants(), sorted([self.state, self.root]))
        self.assertIs(self.give(fetch, self.root), True)
        self.assertEqual(fetch.wants(), sorted([self.state, self.empty]))
        self.assertEqual(len(self.near), 0)
        self.give_all(fetch)
        self.assertEqual(len(self.near), 0)
        self.assertIs(fetch.finish(), True)
        self.assertEqual(self.near.addresses(), closure(self.far, [self.two]))

    def test_some_is_held(self):
        for text in [self.far.get(address) for address in closure(self.far, [self.one])]:
            self.near.put(text)
        fetch = Fetch(self.near, [self.two])
        self.assertEqual(fetch.wants(), [self.two])
        self.give(fetch, self.two)
        self.assertEqual(fetch.wants(), [])
        self.assertIs(fetch.finish(), True)
        self.assertEqual(self.near.addresses(), closure(self.far, [self.two]))

    def test_all_is_held(self):
        for address in closure(self.far, [self.two]):
            self.near.put(self.far.get(address))
        held = self.near.addresses()
        fetch = Fetch(self.near, [self.two, self.root])
        self.assertEqual(fetch.wants(), [])
        self.assertIs(self.give(fetch, self.two), False)
        self.assertIs(fetch.finish(), True)
        self.assertEqual(self.near.addresses(), held)

    def test_no_tips(self):
        fetch = Fetch(self.near, [])
        self.assertEqual(fetch.wants(), [])
        self.assertIs(fetch.finish(), True)
        self.assertEqual(len(self.near), 0)

    def test_several_tips(self):
        tips = [self.two, self.root, self.two, self.one]
        fetch = Fetch(self.near, tips)
        self.assertEqual(fetch.wants(), [self.root, self.one, self.two])
        tips.clear()
        self.assertEqual(fetch.wants(), [self.root, self.one, self.two])
        fetch.wants().clear()
        self.assertEqual(self.give_all(fetch), closure(self.far, [self.two]))

    def test_texts_that_are_not_taken(self):
        fetch = Fetch(self.near, [self.two])
        known = len(self.far.book)
        for address, text in (
            (self.one, self.far.get(self.one)), (self.two, self.far.get(self.one)), (self.one, self.far.get(self.two)),
            (self.two, self.far.get(self.two) + " "), (self.two, ""), (self.two, "no chunk"), (999, self.far.get(self.two)),
            (999, "no chunk"), (self.state, self.far.get(self.state)),
        ):
            self.assertIs(fetch.receive(address, text), False)
            self.assertEqual(fetch.wants(), [self.two])
        self.assertEqual((len(self.near), len(self.far.book)), (0, known))
        self.assertIs(self.give(fetch, self.two), True)
        # What is kept is not wanted any more.
        self.assertIs(self.give(fetch, self.two), False)

    def test_chunks_that_come_by_another_road(self):
        fetch = Fetch(self.near, [self.two])
        self.give(fetch, self.two)
        self.give(fetch, self.one)
        for address in closure(self.far, [self.root]):
            self.near.put(self.far.get(address))
        self.assertEqual(fetch.wants(), [self.state])
        for address in closure(self.far, [self.state]):
            self.near.put(self.far.get(address))
        self.assertEqual(fetch.wants(), [])
        self.assertIs(self.give(fetch, self.state), False)
        self.assertNotIn(self.one, self.near.addresses())
        self.assertIs(fetch.finish(), True)
        self.assertEqual(self.near.addresses(), closure(self.far, [self.two]))

    def test_the_tip_comes_by_another_road(self):
        """The store holds the closure of the tip: nothing is looked into. All kept texts are put all the same."""
        fetch = Fetch(self.near, [self.two])
        self.give(fetch, self.two)
        for address in closure(self.far, [self.two]):
            self.near.put(self.far.get(address))
        self.assertEqual(fetch.wants(), [])
        self.near.drop(self.one)
        self.assertEqual(fetch.wants(), [])
        # Without the tip, what is kept is looked into again.
        self.near.drop(self.two)
        self.assertEqual(fetch.wants(), [self.one])
        self.give(fetch, self.one)
        self.assertIs(fetch.finish(), True)
        self.assertEqual(self.near.addresses(), closure(self.far, [self.two]))

    def test_chunks_that_are_dropped(self):
        for address in closure(self.far, [self.one]):
            self.near.put(self.far.get(address))
        fetch = Fetch(self.near, [self.two])
        self.give(fetch, self.two)
        self.assertEqual(fetch.wants(), [])
        # As many chunks as before, but others.
        self.near.drop(self.one)
        self.near.put("n")
        self.assertEqual(fetch.wants(), [self.one])
        self.assertIs(fetch.finish(), False)
        self.near.drop(self.state)
        self.give(fetch, self.one)
        self.assertEqual(fetch.wants(), [self.state])
        self.give(fetch, self.state)
        self.assertEqual(fetch.wants(), [])

    def test_what_is_kept_stays_kept(self):
        fetch = Fetch(self.near, [self.two])
        self.give_all(fetch)
        self.assertIs(fetch.finish(), True)
        for address in self.near.addresses():
            self.near.drop(address)
        self.assertEqual(fetch.wants(), [])
        self.assertIs(fetch.finish(), True)
        self.assertEqual(self.near.addresses(), closure(self.far, [self.two]))

    def test_kept_texts_that_are_not_reached(self):
        fetch = Fetch(self.near, [self.two])
        for address in (self.two, self.one):
            self.give(fetch, address)
        for address in closure(self.far, [self.two]):
            self.near.put(self.far.get(address))
        self.near.drop(self.one)
        # The tip is held and not looked into, so the kept text of its parent is not reached. It is put all the same.
        self.assertEqual(fetch.wants(), [])
        self.assertIs(fetch.finish(), True)
        self.assertIs(self.near.has(self.one), True)

    def test_nothing_is_put_but_what_was_kept(self):
        before = self.near.put("n")
        fetch = Fetch(self.near, [self.one])
        self.give_all(fetch)
        fetch.finish()
        self.assertEqual(self.near.addresses(), sorted(closure(self.far, [self.one]) + [before]))
        self.assertEqual(self.near.reads, 0)

    def test_two_fetches(self):
        one, two = Fetch(self.near, [self.one]), Fetch(self.near, [self.two])
        self.give(two, self.two)
        self.give_all(one)
        self.assertEqual(two.wants(), sorted([self.state, self.one]))
        one.finish()
        self.assertEqual(two.wants(), [])
        two.finish()
        self.assertEqual(self.near.addresses(), closure(self.far, [self.two]))

    def test_a_long_history(self):
        commit = long_history(self.far, 1500)
        fetch = Fetch(self.near, [commit])
        self.assertEqual(self.give_all(fetch), closure(self.far, [commit]))
        self.assertIs(fetch.finish(), True)
        self.assertEqual(self.near.addresses(), closure(self.far, [commit]))


class RandomTest(unittest.TestCase):
    def test_random_fetches(self):
        for seed in range(30):
            rng = random.Random(seed)
            far = new_chunks()
            last = long_history(far, rng.randrange(1, 9))
            commits = [address for address in far.addresses() if decode(far.get(address))[0] == "commit"]
            near = Chunks(far.book)
            for address in closure(far, [rng.choice(commits)] * rng.randrange(2)):
                near.put(far.get(address))
            tips = rng.sample(commits, rng.randrange(1, 3)) + [last]
            self.follow(rng, far, near, Fetch(near, tips), ModelFetch(tips))

    def follow(self, rng, far, near, fetch, model):
        """Random questions, chunks that are given, and chunks that come and go; the model tells what must hold."""
        for _ in range(120):
            chance = rng.random()
            if chance < 0.6:
                wanted = sorted(model.wants(set(near.addresses())))
                address = rng.choice(wanted) if wanted and rng.random() < 0.8 else rng.choice(far.addresses())
                text = far.get(address if rng.random() < 0.9 else rng.choice(far.addresses()))
                taken = address in wanted and far.book.find(text) == address
                if taken:
                    model.kept[address] = text
                self.assertIs(fetch.receive(address, text), taken)
            elif chance < 0.7:
                for address in closure(far, [rng.choice(far.addresses())]):
                    near.put(far.get(address))
            elif chance < 0.8 and len(near):
                near.drop(rng.choice(near.addresses()))
            elif chance < 0.85:
                held = set(near.addresses())
                self.assertIs(fetch.finish(), not model.wants(held))
                self.assertEqual(set(near.addresses()), held if model.wants(held) else held | set(model.kept))
            self.assertEqual(fetch.wants(), sorted(model.wants(set(near.addresses()))))


if __name__ == "__main__":
    unittest.main()
