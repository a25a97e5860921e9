"""Points 14 to 18: trees."""

import random
import unittest

from tests.support import (
    copy_chunks,
    ends,
    entries_of,
    new_chunks,
    number_keys,
    pair_keys,
    parts_of,
    pick_keys,
    root_address,
    text_keys,
    tree_addresses,
    tree_texts,
    written,
)
from versiontables.book import Book
from versiontables.chunks import Chunks
from versiontables.errors import MissingChunk
from versiontables.trees import build, edit, ends_chunk, find, height, reachable, read, size

COUNTS = (0, 1, 2, 3, 7, 8, 9, 10, 16, 17, 25, 40, 64, 65, 100, 130, 260)
KEYS = (number_keys, text_keys, pair_keys)


def many_trees():
    """Lists of entries of all sizes and all sorts of keys."""
    trees = [entries_of(keys(count, count), count) for keys in (number_keys, text_keys) for count in COUNTS]
    trees.extend(entries_of(pair_keys(count, count), count) for count in COUNTS if count < 60)
    trees.append(entries_of(number_keys(1, 1500)))
    trees.append(entries_of(pick_keys(0, True, 60)))
    trees.append(entries_of(pick_keys(0, False, 60)))
    trees.append(entries_of(pick_keys(1, True, 60)))
    trees.append(entries_of(pick_keys(1, False, 300)))
    trees.append([(key, ()) for key in number_keys(3, 50)])
    trees.append([(key, tuple(range(11))) for key in number_keys(4, 50)])
    trees.append([((letter * 59 + other, -10 ** 59), ("x" * 60,)) for letter in "abcdef" for other in "ghijkl"])
    return trees


class EndsChunkTest(unittest.TestCase):
    def test_level_0(self):
        for key in pick_keys(0, True, 12):
            for count in range(1, 9):
                self.assertIs(ends_chunk(0, key, count), True)
        for key in pick_keys(0, False, 12):
            for count in range(1, 8):
                self.assertIs(ends_chunk(0, key, count), False)
            self.assertIs(ends_chunk(0, key, 8), True)

    def test_levels_above(self):
        for level in range(1, 12):
            for key in pick_keys(level, True, 12):
                self.assertIs(ends_chunk(level, key, 1), False)
                for count in range(2, 9):
                    self.assertIs(ends_chunk(level, key, count), True)
            for key in pick_keys(level, False, 12):
                for count in range(1, 8):
                    self.assertIs(ends_chunk(level, key, count), False)
                self.assertIs(ends_chunk(level, key, 8), True)

    def test_all_sorts_of_keys(self):
        for keys in (number_keys(5, 30), text_keys(5, 30), pair_keys(5, 30), [("~" * 60,), (1 - 10 ** 60, "")]):
            for key in keys:
                for level in range(4):
                    for count in range(1, 9):
                        self.assertIs(ends_chunk(level, key, count), ends(level, key, count))


class BuildTest(unittest.TestCase):
    def test_no_entries(self):
        chunks = new_chunks()
        root = build(chunks, [])
        self.assertEqual(chunks.get(root), "(t4:rows())")
        self.assertEqual(read(chunks, root), [])
        self.assertEqual(size(chunks, root), 0)
        self.assertEqual(height(chunks, root), 1)
        self.assertIsNone(find(chunks, root, (1,)))
        self.assertIsNone(find(chunks, root, ("a", 1)))
        self.assertEqual(reachable(chunks, root), [root])

    def test_one_entry(self):
        chunks = new_chunks()
        root = build(chunks, [((1,), ("a", None))])
        self.assertEqual(chunks.get(root), "(t4:rows(((i1;)(t1:an))))")
        self.assertEqual(size(chunks, root), 1)
        self.assertEqual(height(chunks, root), 1)

    def test_eight_and_nine_entries_in_full_chunks(self):
        keys = pick_keys(0, False, 9)
        for count in (8, 9):
            chunks = new_chunks()
            entries = [(key, ()) for key in keys[:count]]
            root = build(chunks, entries)
            if count == 8:
                self.assertEqual(chunks.get(root), written(("rows", tuple(entries))))
                self.assertEqual(height(chunks, root), 1)
            else:
                first = chunks.book.find(written(("rows", tuple(entries[:8]))))
                second = chunks.book.find(written(("rows", tuple(entries[8:]))))
                node = ("node", 1, ((keys[7], first, 8), (keys[8], second, 1)))
                self.assertEqual(chunks.get(root), written(node))
                self.assertEqual(height(chunks, root), 2)

    def test_chunks_of_one_entry(self):
        # The digest of each key is divisible by 4, so each entry ends a chunk of level 0.
        keys = pick_keys(0, True, 2)
        chunks = new_chunks()
        entries = [(key, ("x",)) for key in keys]
        root = build(chunks, entries)
        leaves = [chunks.book.find(written(("rows", (entry,)))) for entry in entries]
        node = ("node", 1, ((keys[0], leaves[0], 1), (keys[1], leaves[1], 1)))
        self.assertEqual(chunks.get(root), written(node))

    def test_every_chunk_of_every_level(self):
        deepest = 0
        for entries in many_trees():
            with self.subTest(len(entries)):
                chunks = new_chunks()
                root = build(chunks, entries)
                levels = tree_texts(chunks.book, entries)
                for texts in levels:
                    for text in texts:
                        address = chunks.book.find(text)
                        self.assertGreater(address, 0)
                        self.assertIs(chunks.has(address), True)
                        self.assertEqual(chunks.get(address), text)
                self.assertEqual(root, chunks.book.find(levels[-1][0]))
                self.assertEqual(height(chunks, root), len(levels))
                deepest = max(deepest, len(levels))
        self.assertGreater(deepest, 4)

    def test_entries_stay_as_they_were(self):
        for entries in many_trees():
            given = list(entries)
            chunks = new_chunks()
            root = build(chunks, given)
            self.assertEqual(given, entries)
            given.clear()
            self.assertEqual(read(chunks, root), entries)

    def test_equal_entries_have_one_address(self):
        book = Book()
        roots = {}
        for entries in many_trees():
            root = build(Chunks(book), entries)
            self.assertEqual(build(Chunks(book), list(entries)), root)
            self.assertEqual(roots.setdefault(root, entries), entries)
        self.assertEqual(len(roots), len(set(map(repr, many_trees()))))


class ReadTest(unittest.TestCase):
    def test_read_and_size(self):
        for entries in many_trees():
            with self.subTest(len(entries)):
                chunks = new_chunks()
                root = build(chunks, entries)
                self.assertEqual(read(chunks, root), entries)
                before = chunks.reads
                self.assertEqual(size(chunks, root), len(entries))
                self.assertEqual(chunks.reads, before + 1)

    def test_size_needs_the_root_alone(self):
        entries = entries_of(number_keys(8, 500))
        chunks = new_chunks()
        root = build(chunks, entries)
        self.assertEqual(size(copy_chunks(chunks, [root]), root), 500)

    def test_the_list_belongs_to_the_caller(self):
        entries = entries_of(number_keys(9, 40))
        chunks = new_chunks()
        root = build(chunks, entries)
        found = read(chunks, root)
        found.pop()
        found.reverse()
        self.assertEqual(read(chunks, root), entries)
        self.assertEqual(size(chunks, root), 40)

    def test_a_chunk_that_is_missing(self):
        for entries in (entries_of(number_keys(2, 90)), entries_of(text_keys(2, 9))):
            chunks = new_chunks()
            root = build(chunks, entries)
            addresses = tree_addresses(chunks.book, entries)
            for address in addresses:
                copy = copy_chunks(chunks, [other for other in addresses if other != address])
                with self.assertRaises(MissingChunk) as caught:
                    read(copy, root)
                self.assertEqual(caught.exception.address, address)

    def test_a_root_that_is_missing(self):
        chunks = new_chunks()
        root = build(chunks, entries_of(number_keys(2, 90)))
        chunks.drop(root)
        for address in (root, 99999):
            for call in (
                lambda: read(chunks, address),
                lambda: size(chunks, address),
                lambda: height(chunks, address),
                lambda: find(chunks, address, (1,)),
                lambda: edit(chunks, address, [((1,), ())]),
                lambda: reachable(chunks, address),
            ):
                with self.assertRaises(MissingChunk) as caught:
                    call()
                self.assertEqual(caught.exception.address, address)


class FindTest(unittest.TestCase):
    def assert_not_found(self, chunks, root, levels, key):
        before = chunks.reads
        self.assertIsNone(find(chunks, root, key))
        self.assertLessEqual(chunks.reads - before, levels)
        self.assertGreaterEqual(chunks.reads - before, 1)

    def test_keys_that_are_there(self):
        for entries in many_trees():
            chunks = new_chunks()
            root = build(chunks, entries)
            levels = len(tree_texts(chunks.book, entries))
            for key, rest in entries:
                before = chunks.reads
                self.assertEqual(find(chunks, root, key), rest)
                self.assertEqual(chunks.reads - before, levels)

    def test_numbers_that_are_not_there(self):
        for count in COUNTS + (1500,):
            entries = entries_of(number_keys(count, count))
            chunks = new_chunks()
            root = build(chunks, entries)
            levels = len(tree_texts(chunks.book, entries))
            keys = {key[0] for key, _ in entries}
            for number in [key + step for key in keys for step in (-1, 1)] + [-10 ** 59, 10 ** 59, 0]:
                if number not in keys:
                    self.assert_not_found(chunks, root, levels, (number,))

    def test_texts_that_are_not_there(self):
        for count in (1, 9, 130):
            entries = entries_of(text_keys(count, count))
            chunks = new_chunks()
            root = build(chunks, entries)
            levels = len(tree_texts(chunks.book, entries))
            keys = {key[0] for key, _ in entries}
            for text in [key + " " for key in keys] + [key[:-1] for key in keys] + ["", " ", "~" * 60]:
                if text not in keys:
                    self.assert_not_found(chunks, root, levels, (text,))

    def test_pairs_that_are_not_there(self):
        entries = entries_of(pair_keys(7, 50))
        chunks = new_chunks()
        root = build(chunks, entries)
        levels = len(tree_texts(chunks.book, entries))
        keys = {key for key, _ in entries}
        for number, text in sorted(keys):
            for key in ((number, text + "a"), (number + 1, text), (number, ""), (number, "~"), (number - 1, text)):
                if key not in keys:
                    self.assert_not_found(chunks, root, levels, key)

    def test_an_empty_rest_is_no_none(self):
        chunks = new_chunks()
        root = build(chunks, [((number,), ()) for number in range(30)])
        self.assertEqual(find(chunks, root, (17,)), ())
        self.assertIsNone(find(chunks, root, (30,)))

    def test_a_chunk_that_is_missing(self):
        entries = entries_of(number_keys(12, 200))
        chunks = new_chunks()
        root = build(chunks, entries)
        leaves = tree_texts(chunks.book, entries)[0]
        for entry in entries[::9]:
            (leaf,) = [text for text in leaves if written(entry) in text]
            chunks.drop(chunks.book.find(leaf))
            with self.assertRaises(MissingChunk) as caught:
                find(chunks, root, entry[0])
            self.assertEqual(caught.exception.address, chunks.book.find(leaf))
            chunks.put(leaf)
            self.assertEqual(find(chunks, root, entry[0]), entry[1])


class EditTest(unittest.TestCase):
    def assert_edits(self, entries, changes):
        """Edit a tree in a store of its own; compare with what the rules tell."""
        chunks = new_chunks()
        root = build(chunks, entries)
        given = list(changes)
        result = edit(chunks, root, given)
        self.assertEqual(given, changes)
        rests = dict(entries)
        rests.update(changes)
        wanted = [(key, rest) for key, rest in sorted(rests.items()) if rest is not None]
        self.assertEqual(result, root_address(chunks.book, wanted))
        for address in tree_addresses(chunks.book, wanted):
            self.assertIs(chunks.has(address), True)
        self.assertEqual(read(chunks, result), wanted)
        self.assertEqual(read(chunks, root), entries)
        self.assertEqual(size(chunks, result), len(wanted))
        self.assertEqual(result == root, wanted == entries)
        self.assertEqual(build(chunks, wanted), result)
        given.clear()
        self.assertEqual(read(chunks, result), wanted)

    def test_no_changes(self):
        for entries in many_trees()[::4] + [[]]:
            self.assert_edits(entries, [])

    def test_into_the_empty_tree(self):
        for entries in many_trees():
            self.assert_edits([], entries)

    def test_out_of_a_tree(self):
        for entries in many_trees():
            self.assert_edits(entries, [(key, None) for key, _ in entries])

    def test_each_single_change(self):
        for keys in KEYS:
            for count in (1, 2, 8, 9, 40):
                entries = entries_of(keys(count, count))
                for key, rest in entries:
                    self.assert_edits(entries, [(key, None)])
                    self.assert_edits(entries, [(key, ("new", 1))])
                    self.assert_edits(entries, [(key, rest)])
                    self.assert_edits([entry for entry in entries if entry[0] != key], [(key, rest)])

    def test_removing_what_is_not_there(self):
        entries = entries_of(number_keys(3, 60))
        keys = {key for key, _ in entries}
        for number in list(range(-10000, 10000, 171)) + [-10 ** 59, 10 ** 59]:
            if (number,) not in keys:
                self.assert_edits(entries, [((number,), None)])
        self.assert_edits([], [((1,), None), ((2,), None)])
        self.assert_edits([], [((1,), None), ((2,), ("x", 1)), ((3,), None)])

    def test_all_replaced_by_the_same(self):
        for entries in many_trees():
            self.assert_edits(entries, entries)

    def test_before_and_behind_all_others(self):
        for count in COUNTS:
            entries = entries_of(number_keys(count, count))
            for many in (1, 2, 3, 9, 30):
                before = [((number - 20000,), (1, 2)) for number in range(many)]
                behind = [((number + 20000,), (1, 2)) for number in range(many)]
                self.assert_edits(entries, before)
                self.assert_edits(entries, behind)
                self.assert_edits(entries, before + behind)

    def test_all_but_a_few(self):
        for entries in (entries_of(number_keys(6, 60)), entries_of(number_keys(7, 300))):
            for first in range(0, len(entries), len(entries) // 30):
                for many in (1, 2, 9):
                    removed = entries[:first] + entries[first + many:]
                    self.assert_edits(entries, [(key, None) for key, _ in removed])

    def test_runs_that_are_removed(self):
        entries = entries_of(number_keys(11, 120))
        rng = random.Random(11)
        for _ in range(150):
            first, last = sorted(rng.choices(range(121), k=2))
            self.assert_edits(entries, [(key, None) for key, _ in entries[first:last]])

    def test_all_before_or_behind_the_end_of_a_chunk(self):
        # What is left may be chunks that were not touched, beneath levels that there are not any more.
        for count in list(range(9, 60)) + [150, 151, 152]:
            entries = entries_of(number_keys(count, count))
            first = 0
            for part in parts_of(0, entries):
                last = first + len(part)
                self.assert_edits(entries, [(key, None) for key, _ in entries[:first]])
                self.assert_edits(entries, [(key, None) for key, _ in entries[last:]])
                self.assert_edits(entries, [(key, None) for key, _ in entries[:first] + entries[last:]])
                first = last

    def test_random_changes(self):
        for seed in range(600):
            rng = random.Random(seed)
            span = rng.choice([5, 15, 60, 250, 700])
            keys = sorted(rng.sample(range(span), rng.randrange(span)))
            entries = [((key,), (rng.randrange(3), None)) for key in keys]
            near = rng.randrange(span)
            many = rng.choice([1, 1, 2, 3, 8, span // 2])
            pool = range(-3, span + 3) if seed % 2 else range(near, near + 2 * many)
            changes = []
            for key in sorted(rng.sample(pool, min(many, len(pool)))):
                changes.append(((key,), rng.choice([None, None, (0, None), (1, None), (2, None)])))
            self.assert_edits(entries, changes)

    def test_a_long_history(self):
        rng = random.Random(18)
        chunks = new_chunks()
        root = build(chunks, [])
        rests = {}
        for _ in range(400):
            changes = {}
            for _ in range(rng.randrange(4)):
                key = (rng.randrange(12), rng.choice("abcdefgh"))
                changes[key] = rng.choice([None, ("x",), ("y",)])
            root = edit(chunks, root, sorted(changes.items()))
            rests.update(changes)
            wanted = [(key, rest) for key, rest in sorted(rests.items()) if rest is not None]
            self.assertEqual(root, root_address(chunks.book, wanted))
        self.assertEqual(read(chunks, root), wanted)

    def test_a_chunk_that_is_missing(self):
        entries = entries_of(number_keys(14, 100))
        chunks = new_chunks()
        root = build(chunks, entries)
        for part in parts_of(0, entries):
            # What else stands in a chunk of two or more entries is told by that chunk alone.
            if len(part) > 1:
                leaf = written(("rows", tuple(part)))
                chunks.drop(chunks.book.find(leaf))
                for rest in (None, ("other", 5)):
                    with self.assertRaises(MissingChunk) as caught:
                        edit(chunks, root, [(part[0][0], rest)])
                    self.assertEqual(caught.exception.address, chunks.book.find(leaf))
                chunks.put(leaf)
        self.assertEqual(read(chunks, root), entries)


class ReachableTest(unittest.TestCase):
    def test_just_the_chunks_of_the_tree(self):
        for entries in many_trees():
            with self.subTest(len(entries)):
                chunks = new_chunks()
                build(chunks, entries_of(number_keys(99, 50)))
                root = build(chunks, entries)
                build(chunks, entries_of(number_keys(98, 50)))
                self.assertEqual(reachable(chunks, root), tree_addresses(chunks.book, entries))

    def test_ascending_although_the_chunks_are_older(self):
        entries = entries_of(number_keys(21, 200))
        book = Book()
        for entry in reversed(entries):
            build(Chunks(book), [entry])
        for first in range(190, -1, -10):
            build(Chunks(book), entries[first:])
        chunks = Chunks(book)
        root = build(chunks, entries)
        addresses = reachable(chunks, root)
        self.assertEqual(addresses, tree_addresses(book, entries))
        self.assertEqual(addresses, sorted(set(addresses)))

    def test_of_an_edited_tree(self):
        entries = entries_of(number_keys(22, 150))
        chunks = new_chunks()
        root = edit(chunks, build(chunks, entries), [(entries[70][0], None), (entries[71][0], ("x", "y"))])
        wanted = read(chunks, root)
        self.assertEqual(reachable(chunks, root), tree_addresses(chunks.book, wanted))

    def test_a_second_store_with_just_these(self):
        for entries in (entries_of(number_keys(5, 70)), entries_of(text_keys(5, 8))):
            chunks = new_chunks()
            root = build(chunks, entries)
            addresses = reachable(chunks, root)
            copy = copy_chunks(chunks, addresses)
            self.assertEqual(read(copy, root), entries)
            self.assertEqual(reachable(copy, root), addresses)
            for address in addresses:
                copy = copy_chunks(chunks, [other for other in addresses if other != address])
                with self.assertRaises(MissingChunk) as caught:
                    read(copy, root)
                self.assertEqual(caught.exception.address, address)

    def test_a_node_that_is_missing(self):
        entries = entries_of(number_keys(5, 200))
        chunks = new_chunks()
        root = build(chunks, entries)
        for texts in tree_texts(chunks.book, entries)[1:]:
            for text in texts:
                chunks.drop(chunks.book.find(text))
                with self.assertRaises(MissingChunk) as caught:
                    reachable(chunks, root)
                self.assertEqual(caught.exception.address, chunks.book.find(text))
                chunks.put(text)

    def test_the_list_belongs_to_the_caller(self):
        entries = entries_of(number_keys(5, 70))
        chunks = new_chunks()
        root = build(chunks, entries)
        found = reachable(chunks, root)
        found.clear()
        self.assertEqual(reachable(chunks, root), tree_addresses(chunks.book, entries))
        self.assertEqual(read(chunks, root), entries)


if __name__ == "__main__":
    unittest.main()
