"""Points 14 and 18: comparing trees."""

import random
import unittest

from tests.support import (
    copy_chunks,
    entries_of,
    new_chunks,
    number_keys,
    pair_keys,
    parts_of,
    pick_keys,
    text_keys,
    tree_addresses,
    written,
)
from versiontables.chunks import Chunks
from versiontables.comparing import compare
from versiontables.errors import MissingChunk
from versiontables.trees import build, edit, height, read


def expected(first, second):
    """The triples for two lists of entries."""
    left = dict(first)
    right = dict(second)
    keys = sorted(set(left) | set(right))
    return [(key, left.get(key), right.get(key)) for key in keys if left.get(key) != right.get(key)]


class CompareTest(unittest.TestCase):
    def assert_compares(self, first, second):
        chunks = new_chunks()
        one = build(chunks, first)
        two = build(chunks, second)
        self.assertEqual(compare(chunks, one, two), expected(first, second))
        self.assertEqual(compare(chunks, two, one), expected(second, first))
        self.assertEqual((read(chunks, one), read(chunks, two)), (first, second))

    def test_example(self):
        chunks = new_chunks()
        first = build(chunks, [((1,), ("a",)), ((2,), ("b",))])
        second = edit(chunks, first, [((2,), None), ((3,), ("c",))])
        self.assertEqual(compare(chunks, first, second), [((2,), ("b",), None), ((3,), None, ("c",))])
        self.assertEqual(compare(chunks, second, first), [((2,), None, ("b",)), ((3,), ("c",), None)])

    def test_one_address(self):
        for entries in ([], entries_of(number_keys(1, 5)), entries_of(number_keys(1, 300))):
            chunks = new_chunks()
            root = build(chunks, entries)
            before = chunks.reads
            self.assertEqual(compare(chunks, root, root), [])
            self.assertEqual(chunks.reads, before)
            self.assertEqual(compare(Chunks(chunks.book), root, root), [])

    def test_each_single_difference(self):
        for keys in (number_keys, text_keys, pair_keys):
            for count in (1, 2, 8, 9, 45):
                entries = entries_of(keys(count, count))
                for place, (key, _) in enumerate(entries):
                    without = entries[:place] + entries[place + 1:]
                    changed = entries[:place] + [(key, ("other", None))] + entries[place + 1:]
                    self.assert_compares(entries, without)
                    self.assert_compares(entries, changed)
                    self.assert_compares(changed, without)

    def test_the_empty_tree(self):
        for count in (1, 7, 9, 70, 400):
            self.assert_compares(entries_of(number_keys(count, count)), [])
            self.assert_compares(entries_of(text_keys(count, count)), [])

    def test_empty_rests(self):
        entries = [((number,), ()) for number in range(0, 90, 2)]
        self.assert_compares(entries, [])
        self.assert_compares(entries, entries[3:])
        self.assert_compares(entries, [((number,), ()) for number in range(0, 90, 3)])

    def test_nothing_in_common(self):
        low = entries_of([(number,) for number in range(100)])
        high = entries_of([(number,) for number in range(100, 150)])
        even = entries_of([(number,) for number in range(0, 100, 2)])
        odd = entries_of([(number,) for number in range(1, 100, 2)])
        self.assert_compares(low, high)
        self.assert_compares(even, odd)
        self.assert_compares(low[:1], high[-1:])

    def test_unlike_heights(self):
        entries = entries_of(number_keys(7, 900))
        heights = set()
        for first in (0, 300, 880):
            for many in (1, 2, 5, 20, 100, 900):
                part = entries[first:first + many]
                chunks = new_chunks()
                heights.add(height(chunks, build(chunks, part)))
                self.assert_compares(entries, part)
                self.assert_compares(entries, [(key, ("x",)) for key, _ in part])
        self.assertGreater(len(heights), 3)

    def test_unlike_chunks_of_like_entries(self):
        # One entry more in front moves all ends of chunks that no digest gives.
        keys = pick_keys(0, False, 90)
        entries = [(key, ("x",)) for key in keys]
        for first in range(1, 9):
            self.assert_compares(entries, entries[first:])
            self.assert_compares(entries[:40], entries[first:])

    def test_random_trees(self):
        for seed in range(400):
            rng = random.Random(seed)
            span = rng.choice([4, 12, 50, 200, 600])
            first = {(key,): (rng.randrange(3),) for key in rng.sample(range(span), rng.randrange(span))}
            if seed % 2:
                second = {(key,): (rng.randrange(3),) for key in rng.sample(range(span), rng.randrange(span))}
            else:
                second = dict(first)
                for key in rng.sample(range(span), rng.randrange(1, 4)):
                    second[(key,)] = rng.choice([None, (0,), (1,), (3,)])
            second = {key: rest for key, rest in second.items() if rest is not None}
            self.assert_compares(sorted(first.items()), sorted(second.items()))

    def test_a_chunk_that_is_missing(self):
        first = entries_of(number_keys(31, 60))
        second = [((key[0] + 50000,), rest) for key, rest in first]
        chunks = new_chunks()
        one = build(chunks, first)
        two = build(chunks, second)
        for entries in (first, second):
            for part in parts_of(0, entries):
                address = chunks.book.find(written(("rows", tuple(part))))
                text = chunks.get(address)
                chunks.drop(address)
                for pair in ((one, two), (two, one)):
                    with self.assertRaises(MissingChunk) as caught:
                        compare(chunks, *pair)
                    self.assertEqual(caught.exception.address, address)
                chunks.put(text)
        self.assertEqual(compare(chunks, one, two), expected(first, second))

    def test_in_a_store_with_just_these_trees(self):
        first = entries_of(number_keys(33, 80))
        second = first[:30] + first[33:]
        chunks = new_chunks()
        one = build(chunks, first)
        two = build(chunks, second)
        addresses = tree_addresses(chunks.book, first) + tree_addresses(chunks.book, second)
        self.assertEqual(compare(copy_chunks(chunks, addresses), one, two), expected(first, second))

    def test_the_list_belongs_to_the_caller(self):
        first = entries_of(number_keys(34, 20))
        second = first[5:]
        chunks = new_chunks()
        one = build(chunks, first)
        two = build(chunks, second)
        found = compare(chunks, one, two)
        found.clear()
        self.assertEqual(compare(chunks, one, two), expected(first, second))
        found = compare(chunks, one, one)
        found.append("x")
        self.assertEqual(compare(chunks, one, one), [])


if __name__ == "__main__":
    unittest.main()
