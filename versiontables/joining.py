"""Merging another commit into a desk."""

from versiontables.commits import commit_state
from versiontables.errors import NotMerging, UnknownConflict
from versiontables.graph import is_ancestor, merge_base
from versiontables.merging import merge_states, resolve_conflict


def merge(desk, version):
    """Merge the commit that the version text names; return the outcome."""
    other = desk.resolve(version)
    desk.check_clean()
    head = desk.head_commit()
    if is_ancestor(desk.chunks, other, head):
        return "same"
    if is_ancestor(desk.chunks, head, other):
        desk.take_up(other)
        return "forward"
    base = merge_base(desk.chunks, head, other)
    states = [commit_state(desk.chunks, side) for side in (base, head, other)]
    merged, found = merge_states(desk.chunks, *states)
    desk.working = merged
    desk.merging = (other, found)
    return "conflicts" if found else "joined"


def conflicts(desk):
    """Return the list of the open conflicts."""
    return [] if desk.merging is None else list(desk.merging[1])


def settle(desk, index, side):
    """Resolve an open conflict to a side; return the number of those that are left."""
    other, still_open = _open_merge(desk)
    if not 0 <= index < len(still_open):
        raise UnknownConflict(f"there is no open conflict {index}")
    theirs = commit_state(desk.chunks, other)
    desk.working = resolve_conflict(desk.chunks, desk.working, theirs, still_open[index], side)
    left = still_open[:index] + still_open[index + 1:]
    desk.merging = (other, left)
    return len(left)


def abort(desk):
    """End the open merge, back to the state of the commit of the head."""
    _open_merge(desk)
    desk.working = desk.head_state()
    desk.merging = None


def _open_merge(desk):
    """Return the address of the other commit and the list of the open conflicts."""
    if desk.merging is None:
        raise NotMerging("no merge is open")
    return desk.merging
