"""Version texts, which name commits."""

from versiontables.commits import read_commit
from versiontables.errors import InvalidVersion, UnknownVersion
from versiontables.values import is_name

MOST_CHARACTERS = 60
MOST_DIGITS = 18
STEPS = "~^"


def parse_version(text):
    """Return the triple (base, name, steps) that the version text tells."""
    if len(text) > MOST_CHARACTERS:
        raise InvalidVersion("a version text has at most 60 characters")
    base = text.rstrip(STEPS)
    steps = text[len(base):]
    if base == "@":
        return "head", None, steps
    if is_name(base):
        return "name", base, steps
    if base.startswith("/") and is_name(base[1:]):
        return "far", base[1:], steps
    if base.startswith(":") and _is_address(base[1:]):
        return "address", int(base[1:]), steps
    raise InvalidVersion(f"this is not a version text: {text}")


def follow(chunks, commit, steps):
    """Return the address of the commit to which the steps lead."""
    for step in steps:
        parents = read_commit(chunks, commit)[1]
        place = STEPS.index(step)
        if place >= len(parents):
            raise UnknownVersion(f"the commit {commit} has no such parent: {step}")
        commit = parents[place]
    return commit


def _is_address(text):
    if not 1 <= len(text) <= MOST_DIGITS or text[0] == "0":
        return False
    return all(["0" <= sign <= "9" for sign in text])
