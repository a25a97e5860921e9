"""A disk whose power may fail."""

from versiontables.errors import PowerLost


class StoredFile:
    """A saved text and a tail behind it, as lists of parts."""

    def __init__(self):
        self.saved = []
        self.tail = []


class Disk:
    """Files that keep what was saved when the power fails, and any beginning of what was not."""

    def __init__(self):
        # A dict keeps the order in which its keys were added.
        self._files = {}
        self._powered = True
        # How many operations take effect before the power fails, or None if no failure is set.
        self._left = None

    def write(self, name, text):
        """Append the text to the tail of the file."""
        self._begin_operation()
        if name not in self._files:
            self._files[name] = StoredFile()
        self._files[name].tail.append(text)

    def sync(self, name):
        """Save the tail of the file."""
        self._begin_operation()
        if name in self._files:
            _save(self._files[name], _text_of(self._files[name]))

    def cut(self, name, length):
        """Keep only the first characters of the file, and save them."""
        self._begin_operation()
        if name in self._files:
            _save(self._files[name], _text_of(self._files[name])[:length])

    def read(self, name):
        """Return the whole text of the file."""
        self._check_power()
        return _text_of(self._files[name]) if name in self._files else ""

    def total(self):
        """Return the number of characters of all files together."""
        return sum([len(_text_of(stored)) for stored in self._files.values()])

    def arm(self, count):
        """Let the power fail at the operation after the next `count` ones."""
        self._left = count

    def restart(self, kept):
        """Switch the power on again; the files keep so many characters of their tails."""
        for number, stored in enumerate(self._files.values()):
            length = kept[number] if number < len(kept) else 0
            _save(stored, "".join(stored.saved) + "".join(stored.tail)[:length])
        self._powered = True
        self._left = None

    def _check_power(self):
        if not self._powered:
            raise PowerLost("the power is off")

    def _begin_operation(self):
        """Count an operation; it fails if the power is off or fails now."""
        if self._left == 0:
            self._powered = False
        elif self._left is not None:
            self._left -= 1
        self._check_power()


def _text_of(stored):
    return "".join(stored.saved + stored.tail)


def _save(stored, text):
    """Let the file have this saved text and no tail."""
    stored.saved = [text]
    stored.tail = []
