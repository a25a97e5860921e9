"""The names in the files of the package: none is one that L12 of ../shared/LANGUAGE.md bars."""

import ast
import pathlib
import re
import unittest

import versiontables

WORDS = ("_cold", "_tuplegetter", "_outside", "_record", "_written_out", "_member_names")
BARRED = re.compile("(" + "|".join(WORDS) + ")[0-9_]*")
# L12 lets an attribute or a method begin with "_wall"; the package needs none.
BEGINNINGS = ("_wall", "_pe_", "_dcw_", "_enum_", "_cm_", "_twin_re_", "_lay_", "_law_", "_stub_", "_sre", "_WallAttr")
NOWHERE = re.compile(r"(?<![A-Za-z0-9_])(_wall|_WallAttr)(?![A-Za-z0-9_])")

# Each source has one name, which stands for {}.
PLACES = (
    "def {}(n):\n    return n\n",
    "def twice(n):\n    return {}(n)\n",
    "def twice({}):\n    return 2\n",
    "def twice(*{}):\n    return 2\n",
    "def twice(n, *, {}=1):\n    return 2\n",
    "def twice(n):\n    {} = n\n",
    "def twice(n):\n    first, (*{}, last) = n\n",
    "def twice(n):\n    for {} in n:\n        pass\n",
    "def twice(n):\n    return [1 for {} in n]\n",
    "def twice(n):\n    return lambda {}: 1\n",
    "def twice(n):\n    def {}():\n        return n\n",
    "def twice(n):\n    n.{} = 1\n",
    "def twice(n):\n    return n.{}(1)\n",
    "def twice(n):\n    return n(1, {}=1)\n",
    "def twice(n):\n    del {}\n",
    "def twice(n):\n    global {}\n",
    "def twice(n):\n    try:\n        n()\n    except ValueError as {}:\n        pass\n",
    "def twice(n):\n    match n:\n        case [1, *{}]:\n            pass\n",
    "def twice(n):\n    match n:\n        case 1 as {}:\n            pass\n",
    "def twice(n):\n    match n:\n        case Box({}=1):\n            pass\n",
    "def twice(n):\n    return f\"{{{}}}\"\n",
    "class Box:\n    def {}(self):\n        return 1\n",
    "class Box:\n    {} = 1\n",
    "class Box:\n    __slots__ = (\"{}\",)\n",
    "class {}:\n    pass\n",
    "{} = 1\n",
    "from versiontables.codec import {}\n",
    "from versiontables.codec import encode as {}\n",
    "from versiontables.{} import encode\n",
)


def names_in(source):
    """Return the list of the pairs (line, name) of all names, and of all strings, which may be names of slots."""
    found = []
    for node in ast.walk(ast.parse(source)):
        for _, value in ast.iter_fields(node):
            for name in value if isinstance(value, list) else [value]:
                if isinstance(name, str):
                    found.extend((getattr(node, "lineno", 0), part) for part in name.split("."))
    return found


def barred_names(source):
    """Return the list of the pairs (line, name) of the names that are barred."""
    return [(line, name) for line, name in names_in(source) if BARRED.fullmatch(name) or name.startswith(BEGINNINGS)]


def package_files():
    return sorted(pathlib.Path(versiontables.__file__).parent.rglob("*.py"))


class NamesTest(unittest.TestCase):

    def test_no_name_of_the_package_is_barred(self):
        files = package_files()
        self.assertIn("vault.py", [path.name for path in files])
        found = {path.name: barred_names(path.read_text(encoding="ascii")) for path in files}
        self.assertEqual({name: names for name, names in found.items() if names}, {})

    def test_words_that_stand_nowhere(self):
        for path in package_files():
            self.assertIsNone(NOWHERE.search(path.read_text(encoding="ascii")), path.name)

    def test_each_word_is_found_at_each_place(self):
        for place in PLACES:
            for word in WORDS:
                for name in (word, word + "2", word + "_", word + "__", word + "_10", word + "1_"):
                    source = place.format(name)
                    with self.subTest(source=source):
                        self.assertEqual([found for _, found in barred_names(source)], [name])

    def test_the_line_is_told(self):
        source = "def twice(n):\n    return 2 * n\n\n\ndef _record(n):\n    return twice(n)\n"
        self.assertEqual(barred_names(source), [(5, "_record")])

    def test_each_beginning_is_found(self):
        for beginning in BEGINNINGS:
            self.assertEqual(barred_names(f"def {beginning}x(n):\n    return n\n"), [(1, beginning + "x")])

    def test_longer_names_are_free(self):
        for word in WORDS:
            for name in (word + "s", word + "_x", word + "2x", "_last" + word, "x" + word, "_" + word, word[1:]):
                for place in PLACES:
                    self.assertEqual(barred_names(place.format(name)), [])


if __name__ == "__main__":
    unittest.main()
