"""Points 8 and 19: the rows of tables."""

import itertools
import random
import unittest

from tests.support import STAFF, copy_chunks, new_chunks, root_address, tree_addresses
from versiontables.errors import DuplicateKey, InvalidRow, MissingChunk
from versiontables.forms import make_form
from versiontables.tables import find_row, read_rows, write_rows
from versiontables.trees import read

# The columns of this form, in order: age, id, name.
ROWS = [(None, -3, "ann"), (30, 1, "bob"), (7, 2, ""), (30, 10, "bob")]
ENTRIES = [((-3,), (None, "ann")), ((1,), (30, "bob")), ((2,), (7, "")), ((10,), (30, "bob"))]
PAIRS = make_form([("a", "text", "", 0, ""), ("b", "int", 0, 0, ""), ("c", "int?", None, 0, "")], ["b", "a"])


class WriteRowsTest(unittest.TestCase):
    def test_any_order(self):
        for rows in itertools.permutations(ROWS):
            chunks = new_chunks()
            given = list(rows)
            root = write_rows(chunks, STAFF, given)
            self.assertEqual(given, list(rows))
            self.assertEqual(read(chunks, root), ENTRIES)
            self.assertEqual(root, root_address(chunks.book, ENTRIES))
            self.assertEqual(read_rows(chunks, STAFF, root), ROWS)

    def test_no_rows(self):
        chunks = new_chunks()
        root = write_rows(chunks, STAFF, [])
        self.assertEqual(chunks.get(root), "(t4:rows())")
        self.assertEqual(read_rows(chunks, STAFF, root), [])
        self.assertIsNone(find_row(chunks, STAFF, root, (1,)))

    def test_many_rows(self):
        rows = [(number, 3 * number, "n" + str(number)) for number in range(-150, 150)]
        mixed = list(rows)
        random.Random(1).shuffle(mixed)
        chunks = new_chunks()
        root = write_rows(chunks, STAFF, mixed)
        entries = [((identity,), (age, name)) for age, identity, name in rows]
        self.assertEqual(root, root_address(chunks.book, entries))
        for address in tree_addresses(chunks.book, entries):
            self.assertIs(chunks.has(address), True)
        self.assertEqual(read_rows(chunks, STAFF, root), rows)
        for row in rows:
            self.assertEqual(find_row(chunks, STAFF, root, (row[1],)), row)
            self.assertIsNone(find_row(chunks, STAFF, root, (row[1] + 1,)))
            self.assertIsNone(find_row(chunks, STAFF, root, (row[1] - 1,)))

    def test_keys_of_two_columns(self):
        rows = [("x", 1, None), ("y", 1, 5), ("a", 2, None), ("x", 2, 0)]
        for order in itertools.permutations(rows):
            chunks = new_chunks()
            root = write_rows(chunks, PAIRS, list(order))
            self.assertEqual(
                read(chunks, root),
                [((1, "x"), (None,)), ((1, "y"), (5,)), ((2, "a"), (None,)), ((2, "x"), (0,))],
            )
            self.assertEqual(read_rows(chunks, PAIRS, root), rows)
            self.assertEqual(find_row(chunks, PAIRS, root, (2, "x")), ("x", 2, 0))
            self.assertEqual(find_row(chunks, PAIRS, root, (1, "x")), ("x", 1, None))
            for key in ((1, "a"), (3, "x"), (0, "y"), (2, ""), (1, "z")):
                self.assertIsNone(find_row(chunks, PAIRS, root, key))

    def test_rows_that_are_all_key(self):
        form = make_form([("a", "int", 0, 0, "")], ["a"])
        chunks = new_chunks()
        root = write_rows(chunks, form, [(2,), (1,)])
        self.assertEqual(read(chunks, root), [((1,), ()), ((2,), ())])
        self.assertEqual(read_rows(chunks, form, root), [(1,), (2,)])
        self.assertEqual(find_row(chunks, form, root, (2,)), (2,))
        self.assertIsNone(find_row(chunks, form, root, (3,)))

    def test_equal_rows_have_one_address(self):
        chunks = new_chunks()
        root = write_rows(chunks, STAFF, ROWS)
        self.assertEqual(write_rows(chunks, STAFF, ROWS[::-1]), root)
        self.assertNotEqual(write_rows(chunks, STAFF, ROWS[1:]), root)
        self.assertNotEqual(write_rows(chunks, STAFF, [(None, -3, "amy")] + ROWS[1:]), root)

    def test_invalid_rows(self):
        chunks = new_chunks()
        wrong_rows = [
            (), (1,), (1, 2), (1, 2, "x", None), (1, None, "x"), (1, "2", "x"), ("1", 2, "x"), (1, 2, None), (1, 2, 3),
        ]
        for wrong in wrong_rows:
            for place in range(len(ROWS) + 1):
                rows = ROWS[:place] + [wrong] + ROWS[place:]
                given = list(rows)
                with self.subTest(wrong, place=place):
                    with self.assertRaises(InvalidRow):
                        write_rows(chunks, STAFF, given)
                    self.assertEqual(given, rows)

    def test_duplicate_keys(self):
        chunks = new_chunks()
        for row in ROWS:
            for double in (row, (99, row[1], "zoe")):
                for place in range(len(ROWS) + 1):
                    rows = ROWS[:place] + [double] + ROWS[place:]
                    with self.assertRaises(DuplicateKey):
                        write_rows(chunks, STAFF, rows)
        with self.assertRaises(DuplicateKey):
            write_rows(chunks, PAIRS, [("x", 1, 2), ("y", 1, 2), ("x", 2, 2), ("x", 1, 3)])

    def test_invalid_rows_come_before_duplicate_keys(self):
        chunks = new_chunks()
        for rows in itertools.permutations([(1, 2, "x"), (1, 2, "y"), (1, 3, 4)]):
            with self.assertRaises(InvalidRow):
                write_rows(chunks, STAFF, list(rows))
        with self.assertRaises(InvalidRow):
            write_rows(chunks, STAFF, [(1, 2, 4), (1, 2, 4)])


class ReadRowsTest(unittest.TestCase):
    def test_the_list_belongs_to_the_caller(self):
        chunks = new_chunks()
        rows = list(ROWS)
        root = write_rows(chunks, STAFF, rows)
        rows.clear()
        found = read_rows(chunks, STAFF, root)
        found.reverse()
        found.pop()
        self.assertEqual(read_rows(chunks, STAFF, root), ROWS)

    def test_a_chunk_that_is_missing(self):
        rows = [(None, number, "x") for number in range(50)]
        chunks = new_chunks()
        root = write_rows(chunks, STAFF, rows)
        addresses = tree_addresses(chunks.book, [((number,), (None, "x")) for number in range(50)])
        for address in addresses:
            copy = copy_chunks(chunks, [other for other in addresses if other != address])
            with self.assertRaises(MissingChunk) as caught:
                read_rows(copy, STAFF, root)
            self.assertEqual(caught.exception.address, address)
        chunks.drop(root)
        with self.assertRaises(MissingChunk) as caught:
            find_row(chunks, STAFF, root, (7,))
        self.assertEqual(caught.exception.address, root)

    def test_find_row(self):
        chunks = new_chunks()
        root = write_rows(chunks, STAFF, ROWS)
        for row in ROWS:
            self.assertEqual(find_row(chunks, STAFF, root, (row[1],)), row)
        for number in (-4, -2, 0, 3, 9, 11, 10 ** 59):
            self.assertIsNone(find_row(chunks, STAFF, root, (number,)))


if __name__ == "__main__":
    unittest.main()
