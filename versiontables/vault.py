"""The vault, which keeps a desk on a disk.

A record tells all of a desk, but only those chunks that the records in front
of it did not bring. It is one item of a journal, so it is there as a whole or
not at all. Records follow one another in one of two files. To compact is to
begin again in the other one with a record under a greater number: it counts
from the moment on when it is whole, and what the first file has does not.
"""

from versiontables.chunks import Chunks
from versiontables.closure import closure, closure_beyond
from versiontables.desk import Desk
from versiontables.journal import Journal
from versiontables.sweeping import named, sweep

FILES = ("left", "right")


class Vault:
    """Keeps a desk on a disk."""

    def __init__(self, disk, book):
        self._disk = disk
        journals = [Journal(disk, name) for name in FILES]
        records = [_last_record(journal) for journal in journals]
        numbers = [0 if record is None else record[0] for record in records]
        self._number = max(numbers)
        self._place = numbers.index(self._number)
        self._journal = journals[self._place]
        chunks = Chunks(book)
        _put_texts(chunks, self._journal)
        # The chunks that the records brought: with each of them, all chunks to which it leads.
        self._brought = {address: True for address in chunks.addresses()}
        self.desk = _read_desk(chunks, records[self._place])

    def save(self):
        """Keep the desk as it is."""
        self._append_record(closure_beyond(self.desk.chunks, named(self.desk), self._brought))

    def compact(self):
        """Keep the desk as it is, in little room."""
        addresses = closure(self.desk.chunks, named(self.desk))
        before = FILES[self._place]
        self._place = 1 - self._place
        self._number += 1
        # A failure of the power may have left another record there.
        self._disk.cut(FILES[self._place], 0)
        self._journal = Journal(self._disk, FILES[self._place])
        self._brought = {}
        self._append_record(addresses)
        self._disk.cut(before, 0)

    def _append_record(self, addresses):
        """Append a record of the desk that brings these chunks, and save it."""
        texts = [self.desk.chunks.get(address) for address in addresses]
        self._journal.append(_desk_record(self._number, texts, self.desk))
        self._journal.sync()
        for address in addresses:
            self._brought[address] = True


def _last_record(journal):
    """Return the last record, or None if there is none."""
    records = journal.items_from(0)
    return records[-1] if records else None


def _put_texts(chunks, journal):
    """Put all chunks that the records bring into the store."""
    for record in journal:
        for text in record[1]:
            chunks.put(text)


def _desk_record(number, texts, desk):
    """Return the record with that number of the desk, which brings these texts."""
    merging = None
    if desk.merging is not None:
        merging = (desk.merging[0], tuple(desk.merging[1]))
    names = [_pairs(commits) for commits in (desk.branches, desk.tags, desk.fars)]
    return number, tuple(texts), tuple(names), desk.head, desk.working, merging


def _pairs(commits):
    """Return the tuple of the pairs (name, commit) of a dict, in ascending order of the names."""
    return tuple([(name, commits[name]) for name in sorted(commits)])


def _read_desk(chunks, record):
    """Return the desk of a record, or a new one if there is none; the store keeps no chunks but those of the desk."""
    desk = Desk(chunks)
    if record is not None:
        _, _, names, head, working, merging = record
        desk.branches, desk.tags, desk.fars = [dict(pairs) for pairs in names]
        desk.head = head
        desk.working = working
        if merging is not None:
            desk.merging = (merging[0], list(merging[1]))
    sweep(desk)
    return desk
