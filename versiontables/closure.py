"""The chunks to which chunks lead."""

from versiontables.codec import decode

ROWS = "(t4:rows"


def children(text):
    """Return the list of the children of the chunk."""
    # Most chunks hold rows: it would take long to read all of these for nothing.
    if text.startswith(ROWS):
        return []
    item = decode(text)
    if item[0] == "node":
        return [address for _, address, _ in item[2]]
    if item[0] == "state":
        return [root for _, _, root in item[1]]
    _, state, parents, _ = item
    return [state, *parents]


def closure(chunks, addresses):
    """Return the list of the addresses of the closure, in ascending order."""
    return closure_beyond(chunks, addresses, {})


def closure_beyond(chunks, addresses, known):
    """Return the closure without the addresses that are keys of `known`, whose closures are known, too."""
    found = {}
    waiting = list(addresses)
    while waiting:
        address = waiting.pop()
        if address not in found and address not in known:
            found[address] = True
            waiting.extend(children(chunks.get(address)))
    return sorted(found)
