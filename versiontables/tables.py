"""The rows of a table, kept in a tree."""

from versiontables.errors import DuplicateKey, InvalidRow
from versiontables.forms import fits, join_row, reshape, split_row
from versiontables.trees import build, find, read


def write_rows(chunks, form, rows):
    """Put the tree of the rows; return its address."""
    return build(chunks, row_entries(form, rows))


def row_entries(form, rows):
    """Return the list of the entries of the rows, which must have different keys, in ascending order."""
    if not all([fits(form, row) for row in rows]):
        raise InvalidRow("a tuple is not a row of the form")
    entries = sorted([split_row(form, row) for row in rows], key=lambda entry: entry[0])
    keys = [key for key, _ in entries]
    if len(set(keys)) < len(keys):
        raise DuplicateKey("two rows have the same key")
    return entries


def read_rows(chunks, form, root):
    """Return the list of the rows, in ascending order of their keys."""
    return [join_row(form, key, rest) for key, rest in read(chunks, root)]


def find_row(chunks, form, root, key):
    """Return the row with that key, or None."""
    return optional_row(form, key, find(chunks, root, key))


def optional_row(form, key, rest):
    """Return the row with this key and this rest, or None if the rest is None."""
    if rest is None:
        return None
    return join_row(form, key, rest)


def reshape_rows(chunks, old, new, root):
    """Put the tree of the rows reshaped from one form to another; return its address."""
    return write_rows(chunks, new, [reshape(old, new, row) for row in read_rows(chunks, old, root)])
