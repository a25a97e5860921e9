"""The book, which gives texts their addresses."""


class Book:
    """Gives each text an integer as its address, from 1 on."""

    def __init__(self):
        self._addresses = {}

    def address(self, text):
        """Return the address of the text; a text that is new gets one."""
        if text not in self._addresses:
            self._addresses[text] = len(self._addresses) + 1
        return self._addresses[text]

    def find(self, text):
        """Return the address of the text, or 0 if it has none."""
        return self._addresses.get(text, 0)

    def __len__(self):
        return len(self._addresses)
