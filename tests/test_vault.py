"""Points 46, 47, 65, 67, 68 and 69: the vault."""

import copy
import random
import unittest

from tests.desks import FUNCTIONS, PAIRS, WARES, WIDER, commits_in, outcome
from tests.driver import random_call
from tests.model import ModelDesk, World, desk_told, tables_of
from tests.test_closure import long_history
from versiontables.asking import ask
from versiontables.book import Book
from versiontables.closure import closure
from versiontables.committing import add_branch, add_tag, checkout, commit, reset
from versiontables.desk import Desk
from versiontables.disk import Disk
from versiontables.editing import create_table, put_rows
from versiontables.errors import MissingChunk, PowerLost
from versiontables.joining import conflicts, merge, settle
from versiontables.sweeping import named, sweep
from versiontables.vault import Vault

ALL = [10 ** 9] * 9


def snapshot(desk):
    """All that must be kept of a desk: what point 46 tells, and the closure of what it names."""
    chunks = desk.chunks
    return desk_told(desk), {address: chunks.get(address) for address in closure(chunks, named(desk))}


def bound(desk):
    """The most characters that the files may have, as point 69 tells."""
    chunks = desk.chunks
    room = 1000 + sum(40 + len(chunks.get(address)) for address in closure(chunks, named(desk)))
    return room + 600 * (len(desk.branches) + len(desk.tags) + len(desk.fars) + len(conflicts(desk)))


def fill(desk):
    """Commits, branches, tags, a far branch, and an open merge with a conflict of each kind."""
    create_table(desk, "wares", WARES)
    create_table(desk, "pairs", PAIRS)
    put_rows(desk, "wares", [(number, "n" * 60, 10 ** 60 - 1) for number in range(12)])
    put_rows(desk, "pairs", [(number, "r" * 60, None) for number in range(12)])
    commit(desk, "start")
    add_branch(desk, "side")
    add_branch(desk, "abcdefghijkl")
    add_tag(desk, "tag", "@~")
    put_rows(desk, "wares", [(1, "here", 1), (2, "here", 2)])
    put_rows(desk, "pairs", [(10 ** 60 - 1, "r" * 60, 1), (1, "r" * 60, 1)])
    commit(desk, "here")
    checkout(desk, "side")
    put_rows(desk, "wares", [(1, "there", 3), (2, "n" * 60, 4)])
    put_rows(desk, "pairs", [(10 ** 60 - 1, "r" * 60, 2), (1, "r" * 60, 2)])
    commit(desk, "there")
    desk.fars = {"main": desk.branches["main"], "away": desk.branches["abcdefghijkl"]}
    merge(desk, "main")
    settle(desk, 0, "theirs")
    put_rows(desk, "wares", [(50, "new", 5)])


class VaultCase(unittest.TestCase):
    def setUp(self):
        self.book = Book()
        self.disk = Disk()

    def open(self):
        self.vault = Vault(self.disk, self.book)
        self.desk = self.vault.desk
        return self.desk

    def assert_kept(self, wanted):
        """The vault opens with that desk, and its store holds exactly the closure of what the desk names."""
        desk = self.open()
        self.assertEqual(snapshot(desk), wanted)
        self.assertEqual(desk.chunks.addresses(), sorted(wanted[1]))
        self.assertIs(desk.chunks.book, self.book)

    def assert_room(self):
        self.assertLessEqual(self.disk.total(), bound(self.desk))


class KeepingTest(VaultCase):
    def test_a_disk_without_files(self):
        desk = self.open()
        new = Desk(copy.copy(desk.chunks))
        self.assertEqual(desk_told(desk), desk_told(new))
        self.assertEqual(desk.chunks.addresses(), sorted([desk.head_commit(), desk.working]))
        self.assertEqual(self.disk.total(), 0)
        before = snapshot(desk)
        create_table(desk, "wares", WARES)
        commit(desk, "never saved")
        self.assert_kept(before)
        self.disk.restart([])
        self.assert_kept(before)

    def test_save_and_open(self):
        for name in ("save", "compact"):
            self.setUp()
            self.open()
            fill(self.desk)
            wanted = snapshot(self.desk)
            self.assertIsNone(getattr(self.vault, name)())
            self.assertEqual(snapshot(self.desk), wanted)
            self.assert_kept(wanted)
            self.assert_kept(wanted)
            self.disk.restart([])
            self.assert_kept(wanted)

    def test_all_that_point_46_tells(self):
        self.open()
        fill(self.desk)
        self.vault.save()
        desk = self.open()
        self.assertEqual(sorted(desk.branches), ["abcdefghijkl", "main", "side"])
        self.assertEqual(list(desk.tags), ["tag"])
        self.assertEqual(sorted(desk.fars), ["away", "main"])
        self.assertEqual(desk.head, ("branch", "side"))
        self.assertEqual(desk.merging[0], desk.branches["main"])
        self.assertEqual(conflicts(desk), [
            ("row", "pairs", ("r" * 60, 10 ** 60 - 1), ("value",)), ("row", "wares", (1,), ("name", "price")),
            ("row", "wares", (2,), ("price",)),
        ][:len(conflicts(desk))])
        self.assertGreater(len(conflicts(desk)), 1)
        # The desk goes on as if nothing had been.
        while conflicts(desk):
            settle(desk, 0, "theirs")
        both = commit(desk, "both")
        self.assertEqual(desk.branches["side"], both)
        self.vault.save()
        desk = self.open()
        self.assertIsNone(desk.merging)
        self.assertEqual(desk.head_commit(), both)

    def test_the_kinds_of_what_is_kept(self):
        self.open()
        fill(self.desk)
        self.vault.save()
        desk = self.open()
        for names in (desk.branches, desk.tags, desk.fars):
            self.assertIs(type(names), dict)
        self.assertIs(type(desk.head), tuple)
        self.assertIs(type(desk.merging[1]), list)
        self.assertEqual([type(conflict) for conflict in desk.merging[1]], [tuple] * len(desk.merging[1]))

    def test_a_head_that_is_a_commit(self):
        self.open()
        fill(self.desk)
        reset(self.desk, "@")
        checkout(self.desk, "@~")
        self.desk.branches.clear()
        wanted = snapshot(self.desk)
        self.vault.save()
        self.assert_kept(wanted)
        self.assertEqual((self.desk.head[0], self.desk.branches), ("commit", {}))
        self.vault.compact()
        self.assert_kept(wanted)

    def test_an_open_merge_without_conflicts(self):
        self.open()
        fill(self.desk)
        while conflicts(self.desk):
            settle(self.desk, 0, "ours")
        wanted = snapshot(self.desk)
        self.vault.save()
        self.assert_kept(wanted)
        self.assertEqual(self.desk.merging, (self.desk.branches["main"], []))

    def test_what_was_not_saved_is_gone(self):
        self.open()
        fill(self.desk)
        self.vault.save()
        wanted = snapshot(self.desk)
        settle(self.desk, 0, "theirs")
        put_rows(self.desk, "wares", [(99, "gone", 1)])
        add_branch(self.desk, "gone")
        self.assertNotEqual(snapshot(self.desk), wanted)
        self.assert_kept(wanted)

    def test_chunks_that_the_desk_does_not_name(self):
        """They are not kept: the store of an opened vault holds the closure alone."""
        self.open()
        fill(self.desk)
        lost = self.desk.chunks.put("n")
        self.vault.save()
        self.open()
        self.assertIs(self.desk.chunks.has(lost), False)
        self.assertEqual(sweep(self.desk), len(self.desk.chunks))

    def test_save_again_and_again(self):
        for compact in (0, 3, 1):
            self.setUp()
            self.open()
            create_table(self.desk, "wares", WARES)
            for count in range(9):
                put_rows(self.desk, "wares", [(count, "n", count)])
                commit(self.desk, "number " + str(count))
                if compact and count % compact == 0:
                    self.vault.compact()
                    self.assert_room()
                else:
                    self.vault.save()
                self.assert_kept(snapshot(self.desk))
            self.assertEqual(len(commits_in(self.desk.chunks)), 10)

    def test_several_saves_without_opening(self):
        self.open()
        create_table(self.desk, "wares", WARES)
        for count in range(9):
            put_rows(self.desk, "wares", [(count, "n", count)])
            if count % 3 == 1:
                self.vault.compact()
            self.vault.save()
            self.vault.save()
        self.assert_kept(snapshot(self.desk))

    def test_a_chunk_that_comes_back(self):
        """What was swept, and made again, is kept."""
        self.open()
        create_table(self.desk, "wares", WARES)
        put_rows(self.desk, "wares", [(count, "n", count) for count in range(40)])
        commit(self.desk, "one")
        self.vault.save()
        reset(self.desk, "@~")
        sweep(self.desk)
        self.vault.save()
        self.open()
        create_table(self.desk, "wares", WARES)
        put_rows(self.desk, "wares", [(count, "n", count) for count in range(40)])
        commit(self.desk, "one")
        wanted = snapshot(self.desk)
        self.vault.save()
        self.assert_kept(wanted)
        reset(self.desk, "@~")
        sweep(self.desk)
        self.vault.compact()
        create_table(self.desk, "wares", WARES)
        put_rows(self.desk, "wares", [(count, "n", count) for count in range(40)])
        commit(self.desk, "one")
        self.vault.save()
        self.assert_kept(wanted)

    def test_nothing_changes_in_the_desk_and_its_store(self):
        self.open()
        fill(self.desk)
        before = desk_told(self.desk)
        held, known = self.desk.chunks.addresses(), len(self.book)
        for name in ("save", "save", "compact", "save", "compact", "compact"):
            getattr(self.vault, name)()
            self.assertIs(self.vault.desk, self.desk)
            self.assertEqual((desk_told(self.desk), self.desk.chunks.addresses(), len(self.book)), (before, held, known))

    def test_two_vaults_with_one_book(self):
        other = Vault(Disk(), self.book)
        self.open()
        fill(self.desk)
        self.vault.save()
        self.assertEqual(len(other.desk.chunks), 2)
        create_table(other.desk, "more", WIDER)
        other.save()
        self.assert_kept(snapshot(self.desk))
        self.assertEqual(sorted(tables_of(self.desk)), ["pairs", "wares"])

    def test_a_store_that_lacks_a_chunk(self):
        for name in ("save", "compact"):
            self.setUp()
            self.open()
            self.vault.save()
            wanted = snapshot(self.desk)
            create_table(self.desk, "wares", WARES)
            self.desk.chunks.drop(self.desk.working)
            with self.assertRaises(MissingChunk) as caught:
                getattr(self.vault, name)()
            self.assertEqual(caught.exception.address, self.desk.working)
            reset(self.desk, "@")
            self.vault.save()
            self.assert_kept(wanted)

    def test_a_long_history(self):
        self.open()
        self.desk.branches["main"] = long_history(self.desk.chunks, 1500)
        reset(self.desk, "@")
        self.vault.save()
        wanted = snapshot(self.desk)
        self.assert_kept(wanted)
        self.vault.compact()
        self.assert_room()
        self.assert_kept(wanted)


class PowerTest(VaultCase):
    """A failure of the power at each operation, with each part of the tails kept."""

    def kept_parts(self, room):
        """Lists for `restart`: none, all, and some of each tail, if the files had so much room before."""
        tail = self.disk.total() - room
        yield from ([], ALL)
        for part in [*range(0, 40, 3), *range(40, tail, 97), *range(max(tail - 8, 0), tail + 1)]:
            yield from ([part, part], [part, 0], [0, part])

    def take(self, all_of_it):
        """Go on with a copy of a vault, its disk and its book."""
        self.vault, self.disk, self.book = copy.deepcopy(all_of_it)
        self.desk = self.vault.desk

    def assert_one_of(self, before, after):
        """The vault opens with one of the two desks; return that one."""
        found = snapshot(self.open())
        self.assertIn(found, (before, after))
        self.assertEqual(self.desk.chunks.addresses(), sorted(found[1]))
        return found

    def assert_stays(self, wanted):
        """Failures at each operation of opening change nothing."""
        for count in range(9):
            self.disk.arm(count)
            try:
                self.open()
                break
            except PowerLost:
                self.disk.restart([1] * count)
        else:
            self.fail("the vault never opens")
        self.disk.restart([])
        self.assert_kept(wanted)

    def every_failure(self, before, name):
        """Let the power fail at each operation of a call; return how often the desk before it stayed, and how often not."""
        begun = (self.vault, self.disk, self.book)
        after, room = snapshot(self.desk), self.disk.total()
        counts = [0, 0]
        for count in range(1000):
            self.take(begun)
            self.disk.arm(count)
            try:
                getattr(self.vault, name)()
            except PowerLost:
                self.every_part(before, after, room, counts)
                continue
            self.disk.restart([])
            self.assert_kept(after)
            self.assertGreater(count, 0)
            return counts
        return self.fail("the call never ends")

    def every_part(self, before, after, room, counts):
        """Each part of the tails may be kept at the restart."""
        failed = (self.vault, self.disk, self.book)
        for kept in list(self.kept_parts(room)):
            self.take(failed)
            self.disk.restart(kept)
            restarted = copy.deepcopy((self.disk, self.book))
            found = self.assert_one_of(before, after)
            counts[found == after] += 1
            self.disk, self.book = restarted
            self.assert_stays(found)
            if kept in ([], ALL):
                self.go_on(found)

    def go_on(self, wanted):
        """After the failure the vault is used as if nothing had been."""
        for table, name in (("ga", "save"), ("gb", "compact"), ("gc", "save")):
            self.assert_kept(wanted)
            create_table(self.desk, table, WIDER)
            put_rows(self.desk, table, [(1, "a", 1, None)])
            wanted = snapshot(self.desk)
            getattr(self.vault, name)()
            if name == "compact":
                self.assert_room()
            self.disk.restart([])
        self.assert_kept(wanted)

    def test_the_first_save(self):
        for name in ("save", "compact"):
            self.setUp()
            self.open()
            before = snapshot(self.desk)
            fill(self.desk)
            counts = self.every_failure(before, name)
            self.assertGreater(min(counts), 0, counts)

    def test_later_saves(self):
        for name in ("save", "compact"):
            for earlier in (["save"], ["compact"], ["save", "compact"], ["compact", "save"], ["compact", "compact", "save"]):
                self.setUp()
                self.open()
                create_table(self.desk, "wares", WARES)
                for one in earlier:
                    put_rows(self.desk, "wares", [(len(self.desk.chunks), one, 1)])
                    getattr(self.vault, one)()
                before = snapshot(self.desk)
                put_rows(self.desk, "wares", [(7, "more", 7)])
                commit(self.desk, "more")
                counts = self.every_failure(before, name)
                self.assertGreater(min(counts), 0, counts)

    def test_a_failure_behind_a_failure(self):
        """What the first failure left behind must not count later, whatever was kept of it."""
        for first in ("save", "compact"):
            for second in ("save", "compact"):
                for count in range(4):
                    for kept in ([], [25, 25], ALL):
                        self.one_failure_behind_another(first, second, count, kept)

    def one_failure_behind_another(self, first, second, count, kept):
        self.setUp()
        self.open()
        create_table(self.desk, "wares", WARES)
        self.vault.save()
        self.vault.compact()
        before = snapshot(self.desk)
        put_rows(self.desk, "wares", [(1, "first", 1)])
        after = snapshot(self.desk)
        self.disk.arm(count)
        try:
            getattr(self.vault, first)()
        except PowerLost:
            pass
        self.disk.restart(kept)
        before = self.assert_one_of(before, after)
        put_rows(self.desk, "wares", [(2, "second", 2)])
        self.assertGreater(self.every_failure(before, second)[0], 0)

    def test_a_failure_while_a_vault_is_open(self):
        self.open()
        fill(self.desk)
        self.vault.save()
        wanted = snapshot(self.desk)
        put_rows(self.desk, "wares", [(77, "never saved", 1)])
        self.disk.arm(0)
        with self.assertRaises(PowerLost):
            self.disk.write("left", "x")
        self.disk.restart(ALL)
        self.assert_kept(wanted)

    def test_opening_without_power(self):
        self.open()
        self.vault.save()
        self.disk.arm(0)
        for call in (self.vault.save, self.vault.compact, self.open):
            with self.assertRaises(PowerLost):
                call()


class RoomTest(VaultCase):
    def test_a_new_desk(self):
        self.open()
        self.vault.compact()
        self.assert_room()
        self.assertLess(self.disk.total(), 500)

    def test_all_that_takes_room(self):
        self.open()
        fill(self.desk)
        for number in range(40):
            name = "abcdefghij" + "abcdefgh"[number % 8] + "vwxyz"[number // 8]
            (add_branch if number % 2 else add_tag)(self.desk, name)
            self.desk.fars[name] = self.desk.head_commit()
        self.vault.compact()
        self.assert_room()
        self.assert_kept(snapshot(self.desk))

    def test_over_long_use(self):
        self.open()
        create_table(self.desk, "wares", WARES)
        for count in range(120):
            put_rows(self.desk, "wares", [(count % 20, "n" + str(count), count)])
            commit(self.desk, "number " + str(count))
            self.vault.save()
            if count % 10 == 9:
                # Commits to which no name leads any more.
                reset(self.desk, "@~~~~~~~~")
                self.vault.save()
            if count % 30 == 29:
                grown = self.disk.total()
                self.assertGreater(grown, bound(self.desk))
                self.vault.compact()
                self.assertLess(self.disk.total(), grown)
                self.assert_room()
                self.assert_kept(snapshot(self.desk))
        reset(self.desk, ":" + str(min(commits_in(self.desk.chunks))))
        self.vault.compact()
        self.assertLess(self.disk.total(), 500)
        self.assert_room()

    def test_after_failures(self):
        for name in ("save", "compact"):
            for count in range(5):
                self.setUp()
                self.open()
                fill(self.desk)
                self.vault.save()
                self.disk.arm(count)
                try:
                    getattr(self.vault, name)()
                except PowerLost:
                    pass
                self.disk.restart([400, 400])
                self.open()
                self.vault.compact()
                self.assert_room()

    def test_open_conflicts(self):
        self.open()
        wide = [("row", "wares", ("k" * 60, 10 ** 60 - 1), tuple(letter * 12 for letter in "abcdefghijkl"))] * 50
        fill(self.desk)
        self.desk.merging = (self.desk.merging[0], wide)
        self.vault.compact()
        self.assert_room()
        self.assert_kept(snapshot(self.desk))


class RandomTest(VaultCase):
    def test_random_use(self):
        """Random calls with saves, and failures at random operations; the model tells what is kept."""
        counted = [0, 0, 0]
        for seed in range(20):
            self.setUp()
            rng = random.Random(seed)
            self.open()
            world = World(self.book)
            world.link()
            model = ModelDesk(world)
            kept = model.copy()
            for _ in range(40):
                for _ in range(rng.randrange(12)):
                    name, args = random_call(rng, model)
                    outcome(FUNCTIONS[name], self.desk, *args)
                    outcome(getattr(model, name), *args)
                    self.assertTrue(world.link())
                self.assertEqual(desk_told(self.desk), model.told())
                model, kept, sort = self.save_or_fail(rng, model, kept)
                counted[sort] += 1
        self.assertGreater(min(counted), 20, counted)

    def save_or_fail(self, rng, model, kept):
        name = rng.choice(["save", "save", "compact"])
        self.disk.arm(rng.choice([0, 1, 2, 3, 9, 9, 9]))
        try:
            getattr(self.vault, name)()
        except PowerLost:
            self.disk.restart([rng.choice([0, 5, 300, 10 ** 9]), rng.choice([0, 5, 300, 10 ** 9])])
        else:
            self.assertLessEqual(self.disk.total(), bound(self.desk) if name == "compact" else 10 ** 9)
            if rng.random() < 0.5:
                self.disk.restart([])
                return model, model.copy(), 0
            self.disk.restart([])
            kept = model
        self.open()
        told = desk_told(self.desk)
        self.assertIn(told, (model.told(), kept.told()))
        found = (model if told == model.told() else kept).copy()
        found.sweep()
        self.assertEqual(commits_in(self.desk.chunks), sorted(found.world.addresses[one] for one in found.held))
        self.assertEqual(tables_of(self.desk), found.working)
        self.assertEqual(self.desk.chunks.addresses(), closure(self.desk.chunks, named(self.desk)))
        return found, found.copy(), 1 if told == model.told() else 2


if __name__ == "__main__":
    unittest.main()
