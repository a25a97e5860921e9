"""Commits, branches and tags of a desk, and moving between them."""

from versiontables.commits import commit_state, write_commit
from versiontables.errors import (
    DuplicateName, HeadBranch, InvalidName, NothingToCommit, UnknownName, UnresolvedConflicts, Unsound,
)
from versiontables.soundness import violations
from versiontables.values import is_name


def commit(desk, message):
    """Create a commit with the working state; return its address."""
    parents = (desk.head_commit(),)
    if desk.merging is not None:
        other, still_open = desk.merging
        if still_open:
            raise UnresolvedConflicts("there are open conflicts")
        parents = (desk.head_commit(), other)
    if desk.is_clean():
        raise NothingToCommit("the desk is clean")
    check_sound(desk, desk.working)
    made = write_commit(desk.chunks, desk.working, parents, message)
    desk.move_head(made)
    desk.merging = None
    return made


def add_branch(desk, name, version="@"):
    """Add a branch at the commit that the version text names."""
    _check_new_name(desk, name)
    desk.branches[name] = desk.resolve(version)


def add_tag(desk, name, version="@"):
    """Add a tag at the commit that the version text names."""
    _check_new_name(desk, name)
    desk.tags[name] = desk.resolve(version)


def drop_branch(desk, name):
    """Remove the branch."""
    if name not in desk.branches:
        raise UnknownName(f"there is no branch {name}")
    if desk.head == ("branch", name):
        raise HeadBranch(f"the branch {name} is the head")
    del desk.branches[name]


def drop_tag(desk, name):
    """Remove the tag."""
    if name not in desk.tags:
        raise UnknownName(f"there is no tag {name}")
    del desk.tags[name]


def checkout(desk, version):
    """Move to a branch or to a commit; return the address of the commit."""
    found = desk.resolve(version)
    desk.check_clean()
    state = commit_state(desk.chunks, found)
    desk.head = ("branch", version) if version in desk.branches else ("commit", found)
    desk.working = state
    return found


def reset(desk, version):
    """Move the head and the working state to a commit, and end an open merge; return the address of the commit."""
    found = desk.resolve(version)
    desk.take_up(found)
    desk.merging = None
    return found


def check_sound(desk, state):
    """Raise an error if the state is not sound."""
    if violations(desk.chunks, state):
        raise Unsound("the state has violations")


def _check_new_name(desk, name):
    if not is_name(name):
        raise InvalidName(f"this is not a name: {name}")
    if name in desk.branches or name in desk.tags:
        raise DuplicateName(f"there is already a branch or a tag {name}")
