"""Journals, which are lists of items in files."""

from versiontables.codec import decode_prefix, encode
from versiontables.errors import TornText


class Journal:
    """The items of one file of a disk."""

    def __init__(self, disk, name):
        self._disk = disk
        self._name = name
        self._items = []
        text = disk.read(name)
        end = self._read_items(text)
        if end < len(text):
            disk.cut(name, end)

    def append(self, item):
        """Write the item behind the others."""
        self._disk.write(self._name, encode(item))
        self._items.append(item)

    def sync(self):
        """Save all items."""
        self._disk.sync(self._name)

    def items_from(self, index):
        """Return the list of the items from the index on."""
        return self._items[index:]

    def __len__(self):
        return len(self._items)

    def __iter__(self):
        return iter(self._items)

    def _read_items(self, text):
        """Read all items that are whole; return the index behind the last one."""
        index = 0
        while index < len(text):
            try:
                item, index = decode_prefix(text, index)
            except TornText:
                return index
            self._items.append(item)
        return index
