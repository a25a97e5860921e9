"""Carrying the changes of commits onto other states."""

from versiontables.commits import commit_state, read_commit, write_commit
from versiontables.committing import check_sound
from versiontables.errors import NotPickable, NothingToCommit, PickConflict
from versiontables.graph import ancestors, first_line
from versiontables.merging import merge_states


def pick(desk, version):
    """Carry a commit onto the head; return the address of the created commit."""
    commit, parent = _resolve_pickable(desk, version)
    return _commit_merged(desk, parent, commit, read_commit(desk.chunks, commit)[2])


def undo(desk, version):
    """Carry a commit back from the head; return the address of the created commit."""
    commit, parent = _resolve_pickable(desk, version)
    return _commit_merged(desk, commit, parent, read_commit(desk.chunks, commit)[2])


def replay(desk, version):
    """Move the work of the head onto another commit; return the list of the addresses of the created commits."""
    other = desk.resolve(version)
    desk.check_clean()
    # No commit is created before all are carried: one of them may not be carried at all.
    carried = _carry_all(desk, _work_of_head(desk, other), commit_state(desk.chunks, other))
    created = []
    last = other
    for state, message in carried:
        last = write_commit(desk.chunks, state, (last,), message)
        created.append(last)
    desk.take_up(last)
    return created


def _resolve_pickable(desk, version):
    """Return the addresses of the commit that the version text names and of its only parent."""
    commit = desk.resolve(version)
    desk.check_clean()
    return commit, _only_parent(desk.chunks, commit)


def _only_parent(chunks, commit):
    parents = read_commit(chunks, commit)[1]
    if len(parents) != 1:
        raise NotPickable(f"the commit {commit} does not have exactly one parent")
    return parents[0]


def _commit_merged(desk, base, theirs, message):
    """Merge what changed from one commit to another into the head; return the address of the created commit."""
    head = desk.head_commit()
    ours = commit_state(desk.chunks, head)
    state = _carry(desk.chunks, base, ours, theirs)
    if state == ours:
        raise NothingToCommit("the state of the head would not change")
    check_sound(desk, state)
    created = write_commit(desk.chunks, state, (head,), message)
    desk.take_up(created)
    return created


def _carry(chunks, base, ours, theirs):
    """Return the address of a state with the changes from one commit to another."""
    state, found = merge_states(chunks, commit_state(chunks, base), ours, commit_state(chunks, theirs))
    if found:
        raise PickConflict("carrying a commit leads to conflicts")
    return state


def _work_of_head(desk, other):
    """Return the list of the commits to carry as pairs (parent, commit), the oldest one first."""
    known = {commit: True for commit in ancestors(desk.chunks, other)}
    work = []
    for commit in first_line(desk.chunks, desk.head_commit()):
        if commit in known:
            break
        work.append(commit)
    return [(_only_parent(desk.chunks, commit), commit) for commit in work[::-1]]


def _carry_all(desk, work, state):
    """Return the list of the pairs (state, message) of the commits that the work leads to."""
    carried = []
    for parent, commit in work:
        before = state
        state = _carry(desk.chunks, parent, before, commit)
        if state != before:
            check_sound(desk, state)
            carried.append((state, read_commit(desk.chunks, commit)[2]))
    return carried
