"""Point 65: the disk."""

import random
import unittest

from versiontables.disk import Disk
from versiontables.errors import PowerLost

OPERATIONS = [("write", "a", "new"), ("write", "z", "new"), ("sync", "a"), ("sync", "z"), ("cut", "a", 1), ("cut", "z", 0)]


class DiskTest(unittest.TestCase):
    def setUp(self):
        self.disk = Disk()

    def call(self, operation):
        return getattr(self.disk, operation[0])(*operation[1:])

    def assert_off(self):
        for operation in OPERATIONS + [("read", "a"), ("read", "z")]:
            with self.assertRaises(PowerLost):
                self.call(operation)

    def test_a_new_disk(self):
        self.assertEqual(self.disk.read("a"), "")
        self.assertEqual(self.disk.total(), 0)

    def test_write(self):
        self.assertIsNone(self.disk.write("a", "one"))
        self.disk.write("b", "2")
        self.disk.write("a", "")
        self.disk.write("a", "three")
        self.assertEqual(self.disk.read("a"), "onethree")
        self.assertEqual(self.disk.read("b"), "2")
        self.assertEqual(self.disk.read("c"), "")
        self.assertEqual(self.disk.total(), 9)

    def test_sync(self):
        self.disk.write("a", "one")
        self.disk.write("b", "two")
        self.assertIsNone(self.disk.sync("a"))
        self.disk.write("a", "tail")
        self.assertEqual(self.disk.read("a"), "onetail")
        self.assertEqual(self.disk.total(), 10)
        self.disk.restart([])
        self.assertEqual((self.disk.read("a"), self.disk.read("b")), ("one", ""))

    def test_cut(self):
        for length in range(9):
            self.setUp()
            self.disk.write("a", "abc")
            self.disk.sync("a")
            self.disk.write("a", "def")
            self.assertIsNone(self.disk.cut("a", length))
            self.assertEqual(self.disk.read("a"), "abcdef"[:length])
            self.assertEqual(self.disk.total(), min(length, 6))
            # What it keeps is saved.
            self.disk.write("a", "ghi")
            self.disk.restart([])
            self.assertEqual(self.disk.read("a"), "abcdef"[:length])

    def test_files_that_do_not_exist(self):
        self.assertIsNone(self.disk.sync("a"))
        self.assertIsNone(self.disk.cut("a", 0))
        self.assertIsNone(self.disk.cut("a", 5))
        self.assertEqual(self.disk.read("a"), "")
        # Neither of them began to exist: the number 0 is that of the file `b`.
        self.disk.write("b", "two")
        self.disk.write("a", "one")
        self.disk.restart([2, 1])
        self.assertEqual((self.disk.read("a"), self.disk.read("b")), ("o", "tw"))

    def test_an_empty_text_lets_a_file_begin(self):
        self.disk.write("b", "")
        self.disk.write("a", "one")
        self.disk.write("b", "two")
        self.disk.restart([1, 2])
        self.assertEqual((self.disk.read("a"), self.disk.read("b")), ("on", "t"))

    def test_the_numbers_of_the_files(self):
        for name in ("zoo", "main", "abc"):
            self.disk.write(name, "saved")
            self.disk.sync(name)
        self.disk.cut("zoo", 0)
        for name in ("abc", "main", "zoo"):
            self.disk.write(name, "123456")
        self.disk.restart([1, 2, 3])
        self.assertEqual([self.disk.read(name) for name in ("zoo", "main", "abc")], ["1", "saved12", "saved123"])
        # The order stays over restarts.
        for name in ("abc", "main", "zoo"):
            self.disk.write(name, "xyz")
        self.disk.restart([3, 0, 1])
        self.assertEqual([self.disk.read(name) for name in ("zoo", "main", "abc")], ["1xyz", "saved12", "saved123x"])

    def test_too_few_and_too_many_numbers(self):
        for kept, wanted in (([], "sasb"), ([1], "satsb"), ([9], "satailsb"), ([0, 2], "sasbta"), ([4, 4, 7, 9], "satailsbtail"),
                             ([10 ** 20, 4], "satailsbtail")):
            self.setUp()
            for name in "ab":
                self.disk.write(name, "s" + name)
                self.disk.sync(name)
                self.disk.write(name, "ta")
                self.disk.write(name, "il")
            numbers = list(kept)
            self.assertIsNone(self.disk.restart(kept))
            self.assertEqual(self.disk.read("a") + self.disk.read("b"), wanted)
            self.assertEqual(kept, numbers)
            # What is kept is saved.
            self.disk.restart([])
            self.assertEqual(self.disk.read("a") + self.disk.read("b"), wanted)
            self.assertEqual(self.disk.total(), len(wanted))

    def test_the_operation_at_which_the_power_fails(self):
        for operation in OPERATIONS:
            for count in range(4):
                self.setUp()
                self.disk.write("a", "one")
                self.disk.sync("a")
                self.disk.write("a", "tail")
                self.assertIsNone(self.disk.arm(count))
                for _ in range(count):
                    self.disk.sync("nowhere")
                before = self.disk.total()
                # Reading is no operation.
                self.assertEqual(self.disk.read("a"), "onetail")
                with self.assertRaises(PowerLost):
                    self.call(operation)
                self.assertEqual(self.disk.total(), before)
                self.assert_off()
                self.assertEqual(self.disk.total(), before)
                self.disk.restart([4])
                self.assertEqual((self.disk.read("a"), self.disk.read("z")), ("onetail", ""))
                # The file `z` never began.
                self.disk.write("b", "two")
                self.disk.restart([0, 3])
                self.assertEqual(self.disk.read("b"), "two")

    def test_all_operations_count(self):
        for count, operation in enumerate(OPERATIONS * 2):
            self.setUp()
            self.disk.write("a", "one")
            self.disk.arm(count)
            for other in (OPERATIONS * 2)[:count]:
                self.call(other)
            with self.assertRaises(PowerLost):
                self.call(operation)

    def test_a_restart_ends_what_was_armed(self):
        self.disk.arm(1)
        self.disk.restart([])
        for operation in OPERATIONS * 3:
            self.call(operation)
        self.disk.arm(0)
        self.disk.arm(2)
        self.disk.write("b", "1")
        self.disk.arm(1)
        self.disk.write("b", "2")
        with self.assertRaises(PowerLost):
            self.disk.write("b", "3")
        self.disk.restart([9] * 3)
        for operation in OPERATIONS * 3:
            self.call(operation)
        self.assertEqual(self.disk.read("b"), "12")

    def test_a_restart_while_the_power_is_on(self):
        self.disk.write("a", "one")
        self.disk.restart([2])
        self.disk.write("a", "x")
        self.assertEqual(self.disk.read("a"), "onx")

    def test_two_disks(self):
        other = Disk()
        self.disk.write("a", "one")
        self.disk.arm(0)
        other.write("a", "two")
        self.assertEqual((other.read("a"), self.disk.read("a")), ("two", "one"))

    def test_random_operations(self):
        for seed in range(200):
            rng = random.Random(seed)
            self.setUp()
            saved, tails, armed, off = {}, {}, None, False
            for _ in range(60):
                name, word = rng.choice("abcd"), rng.choice(["write", "write", "write", "sync", "cut", "arm", "restart", "read"])
                if word == "arm":
                    armed = rng.randrange(6)
                    self.disk.arm(armed)
                elif word == "restart":
                    kept = [rng.randrange(5) for _ in range(rng.randrange(6))]
                    self.disk.restart(kept)
                    for number, one in enumerate(saved):
                        saved[one] += tails[one][:(kept + [0] * 9)[number]]
                        tails[one] = ""
                    armed, off = None, False
                elif word == "read":
                    if off:
                        self.assertRaises(PowerLost, self.disk.read, name)
                    else:
                        self.assertEqual(self.disk.read(name), saved.get(name, "") + tails.get(name, ""))
                else:
                    text, length = rng.choice(["", "x", "yz"]), rng.randrange(6)
                    arguments = {"write": (name, text), "sync": (name,), "cut": (name, length)}[word]
                    off = off or armed == 0
                    if off:
                        self.assertRaises(PowerLost, getattr(self.disk, word), *arguments)
                        continue
                    armed = None if armed is None else armed - 1
                    getattr(self.disk, word)(*arguments)
                    if word == "write":
                        saved.setdefault(name, "")
                        tails[name] = tails.get(name, "") + text
                    elif name in saved:
                        whole = saved[name] + tails[name]
                        saved[name], tails[name] = (whole if word == "sync" else whole[:length]), ""
                self.assertEqual(self.disk.total(), len("".join(saved.values()) + "".join(tails.values())))


if __name__ == "__main__":
    unittest.main()
