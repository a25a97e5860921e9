"""Point 12: the book."""

import unittest

from versiontables.book import Book

TEXTS = ["", "n", "N", " ", "n ", "i1;", "i1", "ab", "ba", "(n)"]


class BookTest(unittest.TestCase):
    def test_new_book(self):
        book = Book()
        self.assertEqual(len(book), 0)
        for text in TEXTS:
            self.assertEqual(book.find(text), 0)
        self.assertEqual(len(book), 0)

    def test_addresses_in_the_order_of_the_first_calls(self):
        book = Book()
        for number, text in enumerate(TEXTS, 1):
            self.assertEqual(book.address(text), number)
            self.assertEqual(len(book), number)
            self.assertEqual(book.address(text), number)
            self.assertEqual(book.address(TEXTS[0]), 1)
            self.assertEqual(len(book), number)
        for number, text in enumerate(TEXTS, 1):
            self.assertEqual(book.address(text), number)
        self.assertEqual(len(book), len(TEXTS))

    def test_find_gives_no_address(self):
        book = Book()
        self.assertEqual(book.find("a"), 0)
        self.assertEqual(book.find("a"), 0)
        self.assertEqual(len(book), 0)
        self.assertEqual(book.address("b"), 1)
        self.assertEqual(book.find("a"), 0)
        self.assertEqual(book.find("b"), 1)
        self.assertEqual(book.address("a"), 2)
        self.assertEqual(book.find("a"), 2)
        self.assertEqual(book.find("b"), 1)
        self.assertEqual(len(book), 2)

    def test_many_texts(self):
        book = Book()
        for number in range(1, 3001):
            self.assertEqual(book.address("text " + str(number)), number)
        for number in range(3000, 0, -7):
            self.assertEqual(book.address("text " + str(number)), number)
            self.assertEqual(book.find("text " + str(number)), number)
        self.assertEqual(book.find("text 3001"), 0)
        self.assertEqual(len(book), 3000)

    def test_two_books(self):
        first = Book()
        second = Book()
        self.assertEqual(first.address("a"), 1)
        self.assertEqual(second.find("a"), 0)
        self.assertEqual(len(second), 0)
        self.assertEqual(second.address("b"), 1)
        self.assertEqual(second.address("a"), 2)
        self.assertEqual(first.address("a"), 1)
        self.assertEqual(first.find("b"), 0)
        self.assertEqual((len(first), len(second)), (1, 2))


if __name__ == "__main__":
    unittest.main()
