"""Point 13: chunk stores."""

import unittest

from versiontables.book import Book
from versiontables.chunks import Chunks
from versiontables.errors import MissingChunk


class ChunksTest(unittest.TestCase):
    def setUp(self):
        self.book = Book()
        self.one = Chunks(self.book)
        self.two = Chunks(self.book)

    def assert_missing(self, chunks, address):
        with self.assertRaises(MissingChunk) as caught:
            chunks.get(address)
        self.assertEqual(caught.exception.address, address)

    def test_new_store(self):
        self.assertIs(self.one.book, self.book)
        self.assertEqual(self.one.reads, 0)
        self.assertEqual(len(self.one), 0)
        self.assertEqual(self.one.addresses(), [])
        self.assertIs(self.one.has(1), False)
        self.assertEqual(len(self.book), 0)

    def test_put_and_get(self):
        self.assertEqual(self.one.put("n"), 1)
        self.assertEqual(self.one.put("i1;"), 2)
        self.assertEqual(self.one.put("n"), 1)
        self.assertEqual(self.one.get(1), "n")
        self.assertEqual(self.one.get(2), "i1;")
        self.assertEqual(len(self.one), 2)
        self.assertEqual(self.book.find("n"), 1)
        self.assertEqual(self.book.find("i1;"), 2)

    def test_addresses_are_those_of_the_book(self):
        self.book.address("i5;")
        self.assertEqual(self.one.put("n"), 2)
        self.assertEqual(self.one.put("i5;"), 1)
        self.assertEqual(self.one.addresses(), [1, 2])

    def test_the_book_alone_holds_no_chunk(self):
        self.assertEqual(self.book.address("n"), 1)
        self.assertIs(self.one.has(1), False)
        self.assert_missing(self.one, 1)
        self.assertEqual(len(self.one), 0)

    def test_two_stores_with_one_book(self):
        self.assertEqual(self.one.put("n"), 1)
        self.assertEqual(self.two.put("i1;"), 2)
        self.assertEqual((self.one.addresses(), self.two.addresses()), ([1], [2]))
        self.assertEqual((self.one.has(1), self.one.has(2)), (True, False))
        self.assertEqual((self.two.has(1), self.two.has(2)), (False, True))
        self.assert_missing(self.one, 2)
        self.assert_missing(self.two, 1)
        self.assertEqual(self.two.put("n"), 1)
        self.assertEqual(self.two.get(1), "n")
        self.assertEqual((len(self.one), len(self.two), len(self.book)), (1, 2, 2))
        self.two.drop(1)
        self.assertIs(self.one.has(1), True)
        self.assertEqual(self.one.get(1), "n")
        self.assertIs(self.two.has(1), False)

    def test_missing_chunks(self):
        self.one.put("n")
        for address in (2, 3, 999, 0, -1, 10 ** 30):
            self.assertIs(self.one.has(address), False)
            self.assert_missing(self.one, address)

    def test_drop(self):
        self.one.put("n")
        self.one.put("i1;")
        self.one.put("i2;")
        self.assertIsNone(self.one.drop(2))
        self.assertIs(self.one.has(2), False)
        self.assertEqual(self.one.addresses(), [1, 3])
        self.assertEqual(len(self.one), 2)
        self.assert_missing(self.one, 2)
        self.assertIsNone(self.one.drop(2))
        self.assertIsNone(self.one.drop(999))
        self.assertEqual(self.one.addresses(), [1, 3])
        self.assertEqual(self.book.find("i1;"), 2)
        self.assertEqual(self.one.put("i1;"), 2)
        self.assertEqual(self.one.get(2), "i1;")
        self.assertEqual(self.one.addresses(), [1, 2, 3])

    def test_addresses_ascend(self):
        for number in range(20):
            self.book.address("i" + str(number) + ";")
        for number in (7, 3, 19, 0, 11):
            self.one.put("i" + str(number) + ";")
        self.assertEqual(self.one.addresses(), [1, 4, 8, 12, 20])

    def test_the_list_belongs_to_the_caller(self):
        self.one.put("n")
        self.one.put("i1;")
        found = self.one.addresses()
        found.remove(1)
        found.append(999)
        self.assertEqual(self.one.addresses(), [1, 2])
        self.assertEqual(len(self.one), 2)
        self.assertIs(self.one.has(1), True)
        self.assertIs(self.one.has(999), False)
        self.one.put("i2;")
        self.assertEqual(found, [2, 999])

    def test_reads(self):
        self.one.put("n")
        self.one.has(1)
        self.one.has(5)
        self.one.addresses()
        len(self.one)
        self.one.put("n")
        self.one.drop(7)
        self.assertEqual(self.one.reads, 0)
        self.one.get(1)
        self.assertEqual(self.one.reads, 1)
        self.one.get(1)
        self.assertEqual(self.one.reads, 2)
        self.assert_missing(self.one, 2)
        self.assertEqual(self.one.reads, 3)
        self.assert_missing(self.one, 2)
        self.assertEqual(self.one.reads, 4)
        self.one.drop(1)
        self.one.put("i1;")
        self.assertEqual(self.one.reads, 4)
        self.assert_missing(self.one, 1)
        self.assertEqual(self.one.reads, 5)
        self.assertEqual(self.two.reads, 0)
        self.assert_missing(self.two, 2)
        self.assertEqual((self.one.reads, self.two.reads), (5, 1))


if __name__ == "__main__":
    unittest.main()
