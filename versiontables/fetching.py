"""Bringing the closure of commits into a chunk store, a chunk at a time."""

from versiontables.closure import children


class Fetch:
    """Keeps texts apart from the store until the closure of its tips is whole."""

    def __init__(self, chunks, tips):
        self.chunks = chunks
        self.tips = list(tips)
        self._kept = {}
        self._children = {}
        # What the store held when the search began, and what the search met that it did not hold.
        self._held = None
        self._met = {}
        self._wanted = {}

    def wants(self):
        """Return the list of the wanted addresses, in ascending order."""
        self._look()
        return sorted(self._wanted)

    def receive(self, address, text):
        """Keep the text if its address is wanted; return True if it is kept, otherwise False."""
        self._look()
        if address not in self._wanted or self.chunks.book.find(text) != address:
            return False
        self._kept[address] = text
        self._children[address] = children(text)
        del self._wanted[address]
        self._search(self._children[address])
        return True

    def finish(self):
        """Put all kept texts into the store if no address is wanted; return True if that is so, otherwise False."""
        self._look()
        if self._wanted:
            return False
        for text in list(self._kept.values()):
            self.chunks.put(text)
        return True

    def _look(self):
        """Search again from the tips on if the store does not hold what it held."""
        held = self.chunks.addresses()
        if held != self._held:
            self._held = held
            self._met = {}
            self._wanted = {}
            self._search(self.tips)

    def _search(self, addresses):
        """Find what is wanted from these addresses on."""
        waiting = list(addresses)
        while waiting:
            address = waiting.pop()
            # The store holds the closure of what it holds.
            if address in self._met or self.chunks.has(address):
                continue
            self._met[address] = True
            if address in self._kept:
                waiting.extend(self._children[address])
            else:
                self._wanted[address] = True
