"""Commits, each of which names a state, its parents and a message."""

from versiontables.codec import decode, encode
from versiontables.states import write_state


def write_commit(chunks, state, parents, message):
    """Put the chunk of the commit; return its address."""
    return chunks.put(encode(("commit", state, parents, message)))


def read_commit(chunks, commit):
    """Return the triple (state, parents, message) of the commit."""
    return decode(chunks.get(commit))[1:]


def commit_state(chunks, commit):
    """Return the address of the state of the commit."""
    return read_commit(chunks, commit)[0]


def root_commit(chunks):
    """Put the chunks of the root commit and of its state; return the address of the commit."""
    return write_commit(chunks, write_state(chunks, []), (), "")


def holds_commit(chunks, address):
    """Return True if the store holds a commit with that address, otherwise False."""
    if not chunks.has(address):
        return False
    item = decode(chunks.get(address))
    return isinstance(item, tuple) and len(item) == 4 and item[0] == "commit"
