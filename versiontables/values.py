"""Values, their kinds, names, and the digest of a text."""


def base_kind(kind):
    """Return the base kind of a kind."""
    return "int" if kind in ("int", "int?") else "text"


def accepts(kind, value):
    """Return True if the kind accepts the value, otherwise False."""
    if value is None:
        return kind in ("int?", "text?")
    if base_kind(kind) == "int":
        # Python counts True and False as integers, but they are no values.
        return isinstance(value, int) and not isinstance(value, bool)
    return isinstance(value, str)


def is_name(text):
    """Return True if the text is a name, otherwise False."""
    return 1 <= len(text) <= 12 and all(["a" <= letter <= "z" for letter in text])


def digest(text):
    """Return the digest of the text."""
    total = 7
    for letter in text:
        total = (31 * total + ord(letter)) % 1000003
    return total
