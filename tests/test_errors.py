"""Point 2: the errors."""

import unittest

from versiontables import errors

NAMES = [
    "InvalidText", "TornText", "InvalidForm", "InvalidRow", "DuplicateKey", "MissingChunk", "UnknownTable",
    "DuplicateTable", "KeyChanged", "PatchMismatch", "InvalidVersion", "UnknownVersion", "SyntaxFault",
    "InvalidQuery", "InvalidName", "DuplicateName", "UnknownName", "HeadBranch", "NotClean", "NothingToCommit",
    "Unsound", "UnresolvedConflicts", "NotMerging", "UnknownConflict", "NotPickable", "PickConflict", "MissingRow",
    "NoPath", "NotBroken", "PowerLost",
]


def make(name):
    argument = 12 if name in ("MissingChunk", "SyntaxFault") else "a message"
    return getattr(errors, name)(argument)


class ErrorsTest(unittest.TestCase):
    def test_there_are_thirty(self):
        self.assertEqual(len(set(NAMES)), 30)

    def test_version_error_is_directly_a_value_error(self):
        self.assertEqual(errors.VersionError.__bases__, (ValueError,))

    def test_each_is_directly_a_version_error(self):
        for name in NAMES:
            with self.subTest(name):
                self.assertEqual(getattr(errors, name).__bases__, (errors.VersionError,))

    def test_each_is_defined_there_under_its_name(self):
        for name in ["VersionError"] + NAMES:
            with self.subTest(name):
                self.assertEqual(getattr(errors, name).__name__, name)
                self.assertEqual(getattr(errors, name).__module__, "versiontables.errors")

    def test_each_is_none_of_the_others(self):
        for name in NAMES:
            error = make(name)
            self.assertIsInstance(error, ValueError)
            self.assertIsInstance(error, errors.VersionError)
            for other in NAMES:
                with self.subTest(name, other=other):
                    self.assertEqual(isinstance(error, getattr(errors, other)), name == other)

    def test_each_can_be_raised_and_caught(self):
        for name in NAMES:
            for wanted in (getattr(errors, name), errors.VersionError, ValueError):
                with self.subTest(name, wanted=wanted):
                    with self.assertRaises(wanted):
                        raise make(name)

    def test_missing_chunk_has_its_address(self):
        self.assertEqual(errors.MissingChunk(1).address, 1)
        self.assertEqual(errors.MissingChunk(999).address, 999)

    def test_syntax_fault_has_its_column(self):
        self.assertEqual(errors.SyntaxFault(1).column, 1)
        self.assertEqual(errors.SyntaxFault(19).column, 19)


if __name__ == "__main__":
    unittest.main()
