"""The graph of the commits: ancestors, merge bases, first lines.

A commit has a greater address than its parents, so it has a greater one than
all of its other ancestors.
"""

from heapq import heapify, heappop, heappush

from versiontables.commits import read_commit

FROM_FIRST = 1
FROM_SECOND = 2
FROM_BOTH = 3


def ancestors(chunks, commit):
    """Return the list of the addresses of the ancestors of the commit, in ascending order."""
    return _ancestors_from(chunks, commit, 0)


def is_ancestor(chunks, first, second):
    """Return True if the first commit is an ancestor of the second one, otherwise False."""
    return first in _ancestors_from(chunks, second, first)


def merge_base(chunks, first, second):
    """Return the address of the best common ancestor with the greatest address."""
    sides = {first: FROM_FIRST}
    sides[second] = sides.get(second, 0) | FROM_SECOND
    queue = [-commit for commit in sides]
    heapify(queue)
    while queue:
        # No commit that is still to come leads to this one, so all sides from which it is met are known.
        commit = -heappop(queue)
        parents = read_commit(chunks, commit)[1]
        if sides[commit] == FROM_BOTH:
            return commit
        for parent in parents:
            if parent not in sides:
                sides[parent] = 0
                heappush(queue, -parent)
            sides[parent] = sides[parent] | sides[commit]
    return None


def first_line(chunks, commit):
    """Return the list of the commit, its first parent, and so on to the root commit."""
    line = [commit]
    parents = read_commit(chunks, commit)[1]
    while parents:
        line.append(parents[0])
        parents = read_commit(chunks, parents[0])[1]
    return line


def _ancestors_from(chunks, commit, lowest):
    """Return the list of the commit and of its other ancestors whose addresses are at least the lowest one."""
    found = {commit: True}
    waiting = [commit]
    while waiting:
        for parent in read_commit(chunks, waiting.pop())[1]:
            if parent >= lowest and parent not in found:
                found[parent] = True
                waiting.append(parent)
    return sorted(found)
