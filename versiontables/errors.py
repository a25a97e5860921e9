"""The errors of the program."""


class VersionError(ValueError):
    """What all errors of the program are."""


class InvalidText(VersionError):
    """A text is not the written item that it should be."""


class TornText(VersionError):
    """A text ends before the item that it writes does."""


class InvalidForm(VersionError):
    """Columns and a key do not make a form."""


class InvalidRow(VersionError):
    """A tuple of values is not a row of the form."""


class DuplicateKey(VersionError):
    """Two rows have the same key."""


class MissingChunk(VersionError):
    """A chunk store does not hold a chunk that is wanted."""

    def __init__(self, address):
        super().__init__(f"the chunk {address} is not held")
        self.address = address


class UnknownTable(VersionError):
    """There is no table of that name."""


class DuplicateTable(VersionError):
    """There is already a table of that name."""


class KeyChanged(VersionError):
    """A new form of a table has another key signature."""


class PatchMismatch(VersionError):
    """A step of a patch does not fit the state."""


class InvalidVersion(VersionError):
    """A text is not a version text."""


class UnknownVersion(VersionError):
    """A version text names no commit."""


class SyntaxFault(VersionError):
    """A text is not a query or an expression: the column tells where."""

    def __init__(self, column):
        super().__init__(f"there is a fault at column {column}")
        self.column = column


class InvalidQuery(VersionError):
    """A query or an expression does not suit its columns."""


class InvalidName(VersionError):
    """A text is not a name."""


class DuplicateName(VersionError):
    """There is already a branch or a tag of that name."""


class UnknownName(VersionError):
    """There is no branch or tag of that name."""


class HeadBranch(VersionError):
    """The branch is the head."""


class NotClean(VersionError):
    """The desk is not clean."""


class NothingToCommit(VersionError):
    """A commit would change nothing."""


class Unsound(VersionError):
    """A state has violations."""


class UnresolvedConflicts(VersionError):
    """There are open conflicts."""


class NotMerging(VersionError):
    """No merge is open."""


class UnknownConflict(VersionError):
    """There is no open conflict with that index."""


class NotPickable(VersionError):
    """A commit does not have exactly one parent."""


class PickConflict(VersionError):
    """Carrying a commit leads to conflicts."""


class MissingRow(VersionError):
    """A table has no row with that key."""


class NoPath(VersionError):
    """A commit does not stand in the first line of another."""


class NotBroken(VersionError):
    """A query did not hold before, or holds still."""


class PowerLost(VersionError):
    """The power of the disk failed."""
