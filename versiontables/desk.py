"""The desk, which is the place of work over one chunk store."""

from versiontables.commits import commit_state, holds_commit, root_commit
from versiontables.errors import NotClean, UnknownVersion
from versiontables.versions import follow, parse_version


class Desk:
    """Branches, tags and far branches, the head, the working state and an open merge."""

    def __init__(self, chunks):
        commit = root_commit(chunks)
        self.chunks = chunks
        self.branches = {"main": commit}
        self.tags = {}
        self.fars = {}
        self.head = ("branch", "main")
        self.working = commit_state(chunks, commit)
        self.merging = None

    def head_commit(self):
        """Return the address of the commit of the head."""
        sort, place = self.head
        return self.branches[place] if sort == "branch" else place

    def head_state(self):
        """Return the address of the state of the commit of the head."""
        return commit_state(self.chunks, self.head_commit())

    def is_clean(self):
        """Return True if the desk is clean, otherwise False."""
        return self.merging is None and self.working == self.head_state()

    def check_clean(self):
        """Raise an error if the desk is not clean."""
        if not self.is_clean():
            raise NotClean("the desk is not clean")

    def resolve(self, text):
        """Return the address of the commit that the version text names."""
        base, name, steps = parse_version(text)
        return follow(self.chunks, self._base_commit(base, name), steps)

    def move_head(self, commit):
        """Let the head move to the commit."""
        sort, name = self.head
        if sort == "branch":
            self.branches[name] = commit
        else:
            self.head = ("commit", commit)

    def take_up(self, commit):
        """Let the head move to the commit, and the working state become its state."""
        state = commit_state(self.chunks, commit)
        self.move_head(commit)
        self.working = state

    def _base_commit(self, base, name):
        """Return the address of the commit that the base of a version text names."""
        if base == "head":
            return self.head_commit()
        if base == "name" and name in self.branches:
            return self.branches[name]
        if base == "name" and name in self.tags:
            return self.tags[name]
        if base == "far" and name in self.fars:
            return self.fars[name]
        if base == "address" and holds_commit(self.chunks, name):
            return name
        raise UnknownVersion(f"there is no such commit: {name}")
