"""Points 10, 11, 65 and 66: journals."""

import random
import unittest

from versiontables.codec import encode
from versiontables.disk import Disk
from versiontables.errors import InvalidText, PowerLost
from versiontables.journal import Journal

ITEMS = [None, 0, -17, 10 ** 60 - 1, "", "a;b)t3:", (), (1, ("x", None), ()), "i5;", ((((((((((((),),),),),),),),),),),)]
INVALID = ["x", "i07;", "i-0;", "i1x", "t01:a", "(x", "i" + "1" * 61, "t1234567:", "(" * 13, ")", "i;", "t:", " ", "ni5,", "(n))"]


class Counting(Disk):
    """A disk that notes all its operations."""

    def __init__(self):
        Disk.__init__(self)
        self.noted = []

    def write(self, name, text):
        self.noted.append(("write", name, text))
        Disk.write(self, name, text)

    def sync(self, name):
        self.noted.append(("sync", name))
        Disk.sync(self, name)

    def cut(self, name, length):
        self.noted.append(("cut", name, length))
        Disk.cut(self, name, length)


class JournalTest(unittest.TestCase):
    def setUp(self):
        self.disk = Counting()

    def write(self, text):
        self.setUp()
        self.disk.write("log", text)
        self.disk.sync("log")
        self.disk.noted.clear()

    def assert_items(self, journal, items):
        self.assertEqual(len(journal), len(items))
        self.assertEqual(list(journal), items)
        self.assertEqual([type(item) for item in journal], [type(item) for item in items])
        for index in range(len(items) + 1):
            self.assertEqual(journal.items_from(index), items[index:])

    def test_empty_files(self):
        journal = Journal(self.disk, "log")
        self.assert_items(journal, [])
        self.assertEqual(self.disk.noted, [])
        self.write("")
        self.assert_items(Journal(self.disk, "log"), [])
        self.assertEqual(self.disk.noted, [])

    def test_whole_files(self):
        for count in range(len(ITEMS) + 1):
            self.write("".join(encode(item) for item in ITEMS[:count]))
            self.assert_items(Journal(self.disk, "log"), ITEMS[:count])
            self.assertEqual(self.disk.noted, [])

    def test_torn_files(self):
        """Torn at each place: the torn item goes by one cut, and all whole items stay."""
        texts = [encode(item) for item in ITEMS]
        whole = "".join(texts)
        for length in range(len(whole) + 1):
            self.write(whole[:length])
            count, end = 0, 0
            while count < len(texts) and end + len(texts[count]) <= length:
                end += len(texts[count])
                count += 1
            journal = Journal(self.disk, "log")
            self.assert_items(journal, ITEMS[:count])
            self.assertEqual(self.disk.noted, [("cut", "log", end)] * (end < length))
            self.assertEqual(self.disk.read("log"), whole[:end])
            # What is appended then stands behind the whole items.
            journal.append("more")
            self.assert_items(Journal(self.disk, "log"), ITEMS[:count] + ["more"])

    def test_a_torn_tail_that_was_not_saved(self):
        self.disk.write("log", "i5;")
        self.disk.sync("log")
        self.disk.write("log", "t9:abc")
        journal = Journal(self.disk, "log")
        self.assert_items(journal, [5])
        self.assertEqual(self.disk.noted[-1], ("cut", "log", 3))
        self.disk.restart([])
        self.assertEqual(self.disk.read("log"), "i5;")

    def test_invalid_files(self):
        for text in INVALID:
            for whole in (text, "i5;" + text, "(i1;)" + text + "n", text + "i1;"):
                self.write(whole)
                with self.assertRaises(InvalidText):
                    Journal(self.disk, "log")
                self.assertEqual((self.disk.noted, self.disk.read("log")), ([], whole))

    def test_other_files_stay(self):
        self.disk.write("other", "no items")
        self.write("ni1;t4:ab")
        self.disk.write("other", "no items")
        self.assert_items(Journal(self.disk, "log"), [None, 1])
        self.assertEqual(self.disk.read("other"), "no items")
        self.assert_items(Journal(self.disk, "third"), [])

    def test_append_and_sync(self):
        journal = Journal(self.disk, "log")
        for count, item in enumerate(ITEMS):
            self.disk.noted.clear()
            self.assertIsNone(journal.append(item))
            self.assertEqual(self.disk.noted, [("write", "log", encode(item))])
            self.assert_items(journal, ITEMS[:count + 1])
        self.disk.noted.clear()
        self.assertIsNone(journal.sync())
        self.assertEqual(self.disk.noted, [("sync", "log")])
        self.disk.restart([])
        self.assert_items(Journal(self.disk, "log"), ITEMS)

    def test_what_was_not_saved(self):
        journal = Journal(self.disk, "log")
        journal.append("one")
        journal.sync()
        journal.append("two")
        self.disk.restart([])
        self.assert_items(Journal(self.disk, "log"), ["one"])

    def test_sync_of_nothing(self):
        Journal(self.disk, "log").sync()
        self.assertEqual(self.disk.noted, [("sync", "log")])
        self.assertEqual(self.disk.read("log"), "")

    def test_items_from(self):
        journal = Journal(self.disk, "log")
        for number in range(5):
            journal.append(number)
        self.assertEqual([journal.items_from(index) for index in (0, 2, 4, 5)], [[0, 1, 2, 3, 4], [2, 3, 4], [4], []])
        journal.items_from(0).clear()
        journal.items_from(3).append("more")
        self.assert_items(journal, [0, 1, 2, 3, 4])

    def test_iteration(self):
        journal = Journal(self.disk, "log")
        self.assertEqual([item for item in journal], [])
        for item in ("a", "b", "c"):
            journal.append(item)
        self.assertEqual([(place, item) for place, item in enumerate(journal)], [(0, "a"), (1, "b"), (2, "c")])
        self.assertEqual(list(zip(journal, journal)), [("a", "a"), ("b", "b"), ("c", "c")])

    def test_questions_are_answered_without_the_disk(self):
        self.write("".join(encode(item) for item in ITEMS))
        journal = Journal(self.disk, "log")
        self.disk.arm(0)
        with self.assertRaises(PowerLost):
            self.disk.sync("log")
        self.assert_items(journal, ITEMS)

    def test_power(self):
        """A failure at each operation, and each part of the tail kept."""
        texts = [encode(item) for item in ITEMS[:6]]
        for count in range(13):
            for kept in range(len("".join(texts)) + 1):
                self.setUp()
                self.disk.arm(count)
                done, saved = self.append_all(ITEMS[:6])
                self.disk.restart([kept])
                found = list(Journal(self.disk, "log"))
                length = max(len("".join(texts[:saved])), min(len("".join(texts[:done])), len("".join(texts[:saved])) + kept))
                wanted = [item for place, item in enumerate(ITEMS[:6]) if len("".join(texts[:place + 1])) <= length]
                self.assertEqual(found, wanted)

    def append_all(self, items):
        """Append items with a sync behind each second one; return how many were written, and how many saved."""
        done = saved = 0
        journal = Journal(self.disk, "log")
        try:
            for item in items:
                journal.append(item)
                done += 1
                if done % 2 == 0:
                    journal.sync()
                    saved = done
        except PowerLost:
            self.assertEqual(list(journal), items[:done])
        return done, saved

    def test_power_at_the_cut(self):
        self.write("i5;t4:ab")
        self.disk.arm(0)
        with self.assertRaises(PowerLost):
            Journal(self.disk, "log")
        with self.assertRaises(PowerLost):
            Journal(self.disk, "log")
        self.disk.restart([])
        self.assertEqual(self.disk.read("log"), "i5;t4:ab")
        self.assert_items(Journal(self.disk, "log"), [5])
        self.disk.arm(0)
        # No torn item any more: nothing is cut.
        self.assert_items(Journal(self.disk, "log"), [5])

    def test_long_journals(self):
        rng = random.Random(1)
        journal = Journal(self.disk, "log")
        items = [rng.choice(ITEMS) for _ in range(3000)]
        for item in items:
            journal.append(item)
        journal.append("x" * 999999)
        self.assertEqual(list(Journal(self.disk, "log")), items + ["x" * 999999])


if __name__ == "__main__":
    unittest.main()
