"""Points 10 and 11: written items."""

import itertools
import random
import unittest

from tests.support import written
from versiontables.codec import decode, decode_prefix, encode
from versiontables.errors import InvalidText, TornText

SIGNS = "".join(chr(code) for code in range(32, 127) if chr(code) != "%")
LARGE = 10 ** 60 - 1


def nested(levels, inner=()):
    """A tuple that is nested that deep, with more items in the outer ones."""
    item = inner
    for level in range(levels - 1):
        item = (level, item, "x")
    return item


ITEMS = [
    (None, "n"),
    (0, "i0;"),
    (7, "i7;"),
    (-7, "i-7;"),
    (10, "i10;"),
    (-10, "i-10;"),
    (1000000, "i1000000;"),
    (LARGE, "i" + "9" * 60 + ";"),
    (-LARGE, "i-" + "9" * 60 + ";"),
    (10 ** 59, "i1" + "0" * 59 + ";"),
    ("", "t0:"),
    ("a", "t1:a"),
    ("n", "t1:n"),
    (":", "t1::"),
    ("i0;", "t3:i0;"),
    ("t3:abc", "t6:t3:abc"),
    ("(n)", "t3:(n)"),
    (")", "t1:)"),
    ("((((((((((((((", "t14:(((((((((((((("),
    ("0123456789", "t10:0123456789"),
    ("-0", "t2:-0"),
    (" ~ ", "t3: ~ "),
    ((), "()"),
    ((None,), "(n)"),
    ((None, None), "(nn)"),
    ((1, 2), "(i1;i2;)"),
    (((),), "(())"),
    (((), ()), "(()())"),
    (("a", ("b", ("c",)), "d"), "(t1:a(t1:b(t1:c))t1:d)"),
    ((None, -12, "ab", ()), "(ni-12;t2:ab())"),
]


class EncodeTest(unittest.TestCase):
    def test_items(self):
        for item, text in ITEMS:
            with self.subTest(text):
                self.assertEqual(encode(item), text)

    def test_texts_of_all_signs_and_lengths(self):
        self.assertEqual(encode(SIGNS), "t" + str(len(SIGNS)) + ":" + SIGNS)
        for length in (9, 10, 11, 99, 100, 101, 999, 1000, 99999, 100000):
            with self.subTest(length):
                self.assertEqual(encode("q" * length), "t" + str(length) + ":" + "q" * length)

    def test_longest_text(self):
        text = "(;:n" * 249999 + "abc"
        self.assertEqual(len(text), 999999)
        self.assertEqual(encode(text), "t999999:" + text)

    def test_twelve_levels(self):
        item = ()
        for _ in range(11):
            item = (item,)
        self.assertEqual(encode(item), "(" * 12 + ")" * 12)
        self.assertEqual(encode(nested(12, (None,))), written(nested(12, (None,))))


class DecodeTest(unittest.TestCase):
    def test_items(self):
        for item, text in ITEMS:
            with self.subTest(text):
                self.assertEqual(decode(text), item)
                self.assertEqual(type(decode(text)), type(item))
                self.assertEqual(decode_prefix(text, 0), (item, len(text)))

    def test_items_behind_and_before_others(self):
        for item, text in ITEMS:
            for before in ("", "n", "(", "t9:", "i0", "X "):
                for behind in ("", "n", ")", "0", ";", "i7;", "-", ":", "X"):
                    with self.subTest(text, before=before, behind=behind):
                        found = decode_prefix(before + text + behind, len(before))
                        self.assertEqual(found, (item, len(before) + len(text)))

    def test_from_any_index(self):
        texts = [text for _, text in ITEMS]
        whole = "".join(texts)
        index = 0
        for item, text in ITEMS:
            self.assertEqual(decode_prefix(whole, index), (item, index + len(text)))
            index += len(text)
        self.assertEqual(index, len(whole))
        self.assertEqual(decode_prefix("i7;n", 3), (None, 4))
        self.assertEqual(decode_prefix("i-12;", 0), (-12, 5))
        with self.assertRaises(InvalidText):
            decode_prefix("i-12;", 1)
        with self.assertRaises(InvalidText):
            decode_prefix("(n)", 2)
        self.assertEqual(decode_prefix("(n)", 1), (None, 2))

    def test_random_items(self):
        rng = random.Random(10)

        def item(level):
            sort = rng.randrange(4 if level < 12 else 3)
            if sort == 0:
                return None
            if sort == 1:
                return rng.choice([-1, 1]) * rng.randrange(10 ** rng.randrange(61))
            if sort == 2:
                return "".join(rng.choice(SIGNS) for _ in range(rng.randrange(15)))
            return tuple(item(level + 1) for _ in range(rng.randrange(5)))

        for _ in range(1000):
            one = item(0)
            text = written(one)
            self.assertEqual(encode(one), text)
            self.assertEqual(decode(text), one)
            self.assertEqual(decode_prefix("n" + text + "n", 1), (one, len(text) + 1))

    def test_longest_text(self):
        text = "(;:n" * 249999 + "abc"
        self.assertEqual(decode("t999999:" + text), text)
        self.assertEqual(decode(encode((text, 1))), (text, 1))
        self.assertEqual(decode_prefix("t999999:" + text + "i", 0), (text, 1000007))
        with self.assertRaises(TornText):
            decode_prefix("t999999:" + text[1:], 0)

    def test_large_integers(self):
        for sign in ("", "-"):
            for digits in ("1" * 59, "1" * 60, "9" * 60, "1" + "0" * 59):
                with self.subTest(sign + digits):
                    self.assertEqual(decode("i" + sign + digits + ";"), int(sign + digits))

    def test_more_or_less_than_one_item(self):
        for text in ("", "nn", "n ", " n", "i7;n", "i7;;", "()()", "())", "t1:ab", "t0: ", "(n)n", "ni0;"):
            with self.subTest(text):
                with self.assertRaises(InvalidText):
                    decode(text)
        for _, text in ITEMS:
            for _, other in ITEMS:
                with self.subTest(text, other=other):
                    with self.assertRaises(InvalidText):
                        decode(text + other)


class TornTest(unittest.TestCase):
    def assert_torn(self, text, index=0):
        with self.assertRaises(TornText):
            decode_prefix(text, index)
        with self.assertRaises(InvalidText):
            decode(text[index:])

    def test_every_beginning(self):
        for _, text in ITEMS + [(None, written(nested(12, (1, "ab"))))]:
            for length in range(len(text)):
                with self.subTest(text[:length]):
                    self.assert_torn(text[:length])
                    self.assert_torn("n" + text[:length], 1)
                    self.assert_torn("t99:((" + text[:length], 6)

    def test_at_the_end(self):
        self.assert_torn("", 0)
        self.assert_torn("n", 1)
        self.assert_torn("(i7;", 0)
        self.assert_torn("(i7;)", 5)
        self.assert_torn("X", 1)

    def test_numbers_at_their_limits(self):
        self.assert_torn("i" + "1" * 60)
        self.assert_torn("i-" + "1" * 60)
        self.assert_torn("t999999")
        self.assert_torn("t999999:")
        self.assert_torn("t100000:" + "a" * 99999)
        self.assert_torn("(" * 12)
        self.assert_torn("(" * 12 + ")" * 11)


class InvalidTest(unittest.TestCase):
    def assert_invalid_from(self, text, sign):
        """The text alone is torn; the sign behind it makes it invalid, whatever follows."""
        with self.subTest(text + sign):
            with self.assertRaises(TornText):
                decode_prefix(text, 0)
            for behind in ("", sign, ";", ")", ":", "n", "0;", "1" * 99):
                with self.assertRaises(InvalidText):
                    decode_prefix(text + sign + behind, 0)
                with self.assertRaises(InvalidText):
                    decode_prefix("i" + text + sign + behind, 1)
                with self.assertRaises(InvalidText):
                    decode(text + sign + behind)

    def assert_goes_on_with(self, text, signs):
        """The text goes on with these signs and with no other one."""
        for sign in SIGNS:
            if sign not in signs:
                self.assert_invalid_from(text, sign)

    def test_where_an_item_begins(self):
        self.assert_goes_on_with("", "nit(")
        self.assert_goes_on_with("(", "nit()")
        self.assert_goes_on_with("(n", "nit()")
        self.assert_goes_on_with("(i7;", "nit()")
        self.assert_goes_on_with("(t0:", "nit()")
        self.assert_goes_on_with("(()", "nit()")
        self.assert_goes_on_with("(t2:((", "nit()")

    def test_within_integers(self):
        self.assert_goes_on_with("i", "-0123456789")
        self.assert_goes_on_with("i-", "123456789")
        self.assert_goes_on_with("i0", ";")
        self.assert_goes_on_with("i7", "0123456789;")
        self.assert_goes_on_with("i-7", "0123456789;")
        self.assert_goes_on_with("i10", "0123456789;")
        self.assert_goes_on_with("i" + "1" * 59, "0123456789;")
        self.assert_goes_on_with("i-" + "1" * 59, "0123456789;")
        self.assert_goes_on_with("i" + "1" * 60, ";")
        self.assert_goes_on_with("i-" + "1" * 60, ";")
        self.assert_goes_on_with("(i0", ";")
        self.assert_goes_on_with("(ni-", "123456789")

    def test_within_numbers_of_characters(self):
        self.assert_goes_on_with("t", "0123456789")
        self.assert_goes_on_with("t0", ":")
        self.assert_goes_on_with("t1", "0123456789:")
        self.assert_goes_on_with("t10", "0123456789:")
        self.assert_goes_on_with("t99999", "0123456789:")
        self.assert_goes_on_with("t999999", ":")
        self.assert_goes_on_with("t100000", ":")
        self.assert_goes_on_with("(t0", ":")

    def test_levels(self):
        self.assert_goes_on_with("(" * 11, "nit()")
        self.assert_goes_on_with("(" * 12, "nit)")
        self.assert_goes_on_with("(" * 12 + "n", "nit)")
        self.assert_goes_on_with("(" * 12 + ")", "nit()")
        self.assert_goes_on_with("(" * 11 + "()", "nit()")
        self.assert_goes_on_with("(" * 11 + "()()" + "(", "nit)")
        self.assertEqual(decode("(" + "()" * 20 + ")"), ((),) * 20)
        item = ((),) * 13
        for _ in range(10):
            item = (item,)
        self.assertEqual(decode("(" * 11 + "()" * 13 + ")" * 11), item)

    def test_levels_count_from_the_index(self):
        text = "(" * 13 + ")" * 13
        with self.assertRaises(InvalidText):
            decode_prefix(text, 0)
        self.assertEqual(decode_prefix(text, 1)[1], 25)
        self.assertEqual(decode_prefix(text, 2)[1], 24)

    def test_all_short_texts(self):
        for length in range(6):
            for signs in itertools.product("nit()01-:;", repeat=length):
                text = "".join(signs)
                self.assertEqual(outcome(text), expected_outcome(text), text)


def outcome(text):
    try:
        return decode_prefix(text, 0)[1]
    except TornText:
        return "torn"
    except InvalidText:
        return "invalid"


def expected_outcome(text):
    """The number of characters of the first item, or "torn" or "invalid": a machine that reads sign by sign."""
    place = "item"
    opened = 0
    count = 0
    for index, sign in enumerate(text):
        ended = False
        if place == "text":
            count -= 1
            ended = count == 0
        elif place == "item" and sign in "nit(":
            place = {"n": "item", "i": "sign", "t": "length", "(": "item"}[sign]
            opened += sign == "("
            ended = sign == "n"
        elif place == "item" and sign == ")" and opened:
            opened -= 1
            ended = True
        elif (place, sign) == ("sign", "-"):
            place = "first"
        elif (place, sign) in (("sign", "0"), ("length", "0")):
            place = "zero" if place == "sign" else "none"
        elif place in ("sign", "first") and sign == "1":
            place = "digits"
        elif place == "digits" and sign in "01":
            place = "digits"
        elif place in ("digits", "zero") and sign == ";":
            ended = True
        elif place == "length" and sign == "1":
            place = "lengths"
            count = 1
        elif place == "lengths" and sign in "01":
            count = 10 * count + int(sign)
        elif place == "lengths" and sign == ":":
            place = "text"
        elif place == "none" and sign == ":":
            ended = True
        else:
            return "invalid"
        if ended:
            place = "item"
            if not opened:
                return index + 1
    return "torn"


if __name__ == "__main__":
    unittest.main()
