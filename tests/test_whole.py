"""Point 1 and the whole: two vaults with peers, over long use, held against the plain model of the tables."""

import collections
import random
import unittest

from tests.driver import random_call
from tests.model import ModelDesk, ModelPeer, desk_told
from tests.pairs import Pair, PairsCase
from versiontables.disk import Disk
from versiontables.errors import PowerLost
from versiontables.peers import Peer
from versiontables.sweeping import named, sweep
from versiontables.vault import Vault


class Site(Pair):
    """A pair whose desk is kept in a vault. `kept` is what the model tells of the desk that is kept."""

    def __init__(self, disk, vault, model):
        Pair.__init__(self, vault.desk, model)
        self.disk, self.vault = disk, vault
        self.kept = model.copy()


class WholeTest(PairsCase):
    def new_site(self):
        disk = Disk()
        site = Site(disk, Vault(disk, self.book), ModelDesk(self.world))
        self.world.link()
        return site

    def open(self, site):
        """Open the vault again: the desk is the one that was kept, and the peer is a new one."""
        site.vault = Vault(site.disk, self.book)
        site.desk, site.model = site.vault.desk, site.kept.copy()
        site.model.sweep()
        site.peer, site.told = Peer(site.desk), ModelPeer(site.model, set(), self.book)
        self.use(site)
        self.assert_same()
        self.assertEqual(len(site.desk.chunks), sweep(site.desk))
        self.told["opened"] += 1

    def run_through(self, seed, steps):
        """A long run; return all answers in it."""
        self.setUp()
        self.told = collections.Counter()
        self.waiting, self.answers = [], []
        rng = random.Random(seed)
        sites = [self.new_site(), self.new_site()]
        for _ in range(steps):
            site = rng.choice(sites)
            other = sites[1 - sites.index(site)]
            self.use(site)
            self.answers.append(self.step(rng, site, other))
        for site in sites:
            self.use(site)
            self.assert_closed()
            self.answers.append((self.model.told(), site.disk.total()))
        return self.answers

    def step(self, rng, site, other):
        chance = rng.random()
        if chance < 0.5:
            name, args = random_call(rng, site.model)
            found = self.do(name, *args)
            self.told[name + (" failed" if isinstance(found, type) else "")] += 1
            return name, str(found)
        if chance < 0.6:
            letters = [("ask",)] + [site.peer.offer(name) for name in sorted(site.desk.branches)]
            self.waiting.append((other, rng.choice(letters)))
            return self.waiting[-1][1]
        if chance < 0.64:
            found = self.again()
            self.waiting.extend((other, letter) for letter in found)
            return found
        if chance < 0.66:
            site.model.sweep()
            found = sweep(site.desk)
            self.assert_same()
            self.told["swept"] += 1
            return found, named(site.desk)
        if chance < 0.7:
            return self.save(rng, site)
        return self.pass_letters(rng, rng.randrange(1, 12), site, other)

    def save(self, rng, site):
        """Save or compact, perhaps with a failure of the power; perhaps open again."""
        name = rng.choice(["save", "save", "compact"])
        site.disk.arm(rng.choice([0, 1, 2, 3, 9, 9, 9, 9, 9, 9]))
        before, after = site.kept, site.model.copy()
        try:
            getattr(site.vault, name)()
        except PowerLost:
            self.told[name + " failed"] += 1
        else:
            self.told[name] += 1
            before = site.kept = after
            site.disk.arm(10 ** 9)
            if rng.random() < 0.8:
                return name, site.disk.total()
        site.disk.restart([rng.choice([0, 40, 10 ** 9]), rng.choice([0, 40, 10 ** 9])])
        found = desk_told(Vault(site.disk, self.book).desk)
        site.kept = after if found == after.told() else before
        self.open(site)
        return name, "opened", site.disk.total()

    def pass_letters(self, rng, count, site, other):
        """Letters that are received out of their order, some of them twice, never, or with another text."""
        found = []
        for _ in range(min(count, len(self.waiting))):
            place = rng.choice([0, 0, rng.randrange(len(self.waiting))])
            pair, letter = self.waiting[place] if rng.random() < 0.04 else self.waiting.pop(place)
            if rng.random() < 0.04:
                continue
            if letter[0] == "chunk" and rng.random() < 0.04:
                letter = (*letter[:2], rng.choice(["", "n", letter[2] + "n"]))
            self.use(pair)
            replies = self.receive(letter)
            self.told[letter[0]] += 1
            self.waiting.extend((other if pair is site else site, reply) for reply in replies)
            found.append((letter, replies))
        return found

    def test_long_runs(self):
        told = collections.Counter()
        for seed in range(6):
            self.run_through(seed, 500)
            told += self.told
        for word in (
            "ask", "refs", "offer", "taken", "refused", "want", "chunk", "swept", "opened", "save", "compact", "save failed",
            "compact failed", "merge", "commit", "settle", "pick", "undo", "replay", "bisect", "blame", "checkout",
        ):
            self.assertGreater(told[word], 2, told)

    def test_the_same_run_twice(self):
        for seed in (100, 101):
            self.assertEqual(self.run_through(seed, 250), self.run_through(seed, 250))


if __name__ == "__main__":
    unittest.main()
