"""Dropping chunks to which nothing leads any more."""

from versiontables.closure import closure


def named(desk):
    """Return the list of the addresses of what the desk names, in ascending order."""
    found = [desk.head_commit(), desk.working]
    for names in (desk.branches, desk.tags, desk.fars):
        found.extend(list(names.values()))
    if desk.merging is not None:
        found.append(desk.merging[0])
    return sorted(set(found))


def sweep(desk):
    """Drop all chunks that do not belong to the closure of what the desk names; return how many are left."""
    kept = {address: True for address in closure(desk.chunks, named(desk))}
    for address in desk.chunks.addresses():
        if address not in kept:
            desk.chunks.drop(address)
    return len(desk.chunks)
