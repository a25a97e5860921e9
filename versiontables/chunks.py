"""Chunk stores, which hold chunks by their addresses."""

from versiontables.errors import MissingChunk


class Chunks:
    """A store of chunks whose addresses a book gives."""

    def __init__(self, book):
        self.book = book
        self.reads = 0
        self._texts = {}

    def put(self, text):
        """Hold the text from now on; return its address."""
        address = self.book.address(text)
        self._texts[address] = text
        return address

    def get(self, address):
        """Return the text with that address."""
        self.reads += 1
        if address not in self._texts:
            raise MissingChunk(address)
        return self._texts[address]

    def has(self, address):
        """Return True if the store holds a text with that address, otherwise False."""
        return address in self._texts

    def drop(self, address):
        """Do not hold the text with that address any more."""
        self._texts.pop(address, None)

    def addresses(self):
        """Return the list of the addresses of the texts that are held, in ascending order."""
        return sorted(self._texts)

    def __len__(self):
        return len(self._texts)
