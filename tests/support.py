"""What several tests share: the document's rules, told a second time and in another way."""

import random

from versiontables.book import Book
from versiontables.chunks import Chunks
from versiontables.forms import make_form


def new_chunks():
    return Chunks(Book())


def written(item):
    """The written item, as point 10 tells."""
    if item is None:
        return "n"
    if isinstance(item, int):
        return "i" + str(item) + ";"
    if isinstance(item, str):
        return "t" + str(len(item)) + ":" + item
    return "(" + "".join(written(part) for part in item) + ")"


def text_digest(text):
    """The digest of a text, as point 5 tells."""
    total = 7 * 31 ** len(text)
    for place, letter in enumerate(reversed(text)):
        total += ord(letter) * 31 ** place
    return total % 1000003


def ends(level, key, count):
    """Whether a chunk ends behind an entry that is not the last one, as point 17 tells."""
    divisible = text_digest(written((level, key))) % 4 == 0
    return count == 8 or (divisible and (level == 0 or count >= 2))


def parts_of(level, entries):
    """The entries of a level, put into chunks."""
    parts = [[]]
    for entry in entries:
        if parts[-1] and ends(level, parts[-1][-1][0], len(parts[-1])):
            parts.append([])
        parts[-1].append(entry)
    return parts


def tree_texts(book, entries):
    """The texts of the chunks of a tree: a list for each level. The book knows the texts already."""
    levels = [[written(("rows", tuple(part))) for part in parts_of(0, entries)]]
    above = [(part[-1][0], book.find(text), len(part)) for part, text in zip(parts_of(0, entries), levels[0]) if part]
    while len(levels[-1]) > 1:
        level = len(levels)
        parts = parts_of(level, above)
        levels.append([written(("node", level, tuple(part))) for part in parts])
        above = [
            (part[-1][0], book.find(text), sum(entry[2] for entry in part))
            for part, text in zip(parts, levels[-1])
        ]
    return levels


def tree_addresses(book, entries):
    """The addresses of the chunks of a tree, in ascending order."""
    return sorted(book.find(text) for texts in tree_texts(book, entries) for text in texts)


def root_address(book, entries):
    return book.find(tree_texts(book, entries)[-1][0])


def copy_chunks(chunks, addresses):
    """A second store with the same book that holds these chunks."""
    copy = Chunks(chunks.book)
    for address in addresses:
        copy.put(chunks.get(address))
    return copy


def number_keys(seed, count, span=10000):
    """Different keys of one integer, in ascending order, some of them negative."""
    rng = random.Random(seed)
    return [(number,) for number in sorted(rng.sample(range(-span, span), count))]


def text_keys(seed, count):
    """Different keys of one text, in ascending order."""
    rng = random.Random(seed)
    letters = "ab z;:()ni0-~ "
    keys = {("".join(rng.choice(letters) for _ in range(rng.randrange(9))),) for _ in range(3 * count)}
    return sorted(rng.sample(sorted(keys), count))


def pair_keys(seed, count):
    """Different keys of an integer and a text, in ascending order."""
    rng = random.Random(seed)
    keys = {(rng.randrange(-9, 9), rng.choice("abcdefgh") * rng.randrange(9)) for _ in range(9 * count)}
    return sorted(rng.sample(sorted(keys), count))


def entries_of(keys, seed=0):
    """Entries with these keys, and rests of all kinds of values."""
    rng = random.Random(seed)
    return [(key, tuple(rng.choice([None, 0, -5, 10 ** 59, "", "n;", "ab"]) for _ in range(2))) for key in keys]


def pick_keys(level, divisible, count):
    """Keys of one integer whose digest at the level is, or is not, divisible by 4."""
    keys = [(number,) for number in range(40 * count)]
    keys = [key for key in keys if (text_digest(written((level, key))) % 4 == 0) == divisible]
    return keys[:count]


STAFF = make_form(
    [
        ("id", "int", 0, 0, ""),
        ("name", "text", "", 0, ""),
        ("age", "int?", None, 0, ""),
    ],
    ["id"],
)
