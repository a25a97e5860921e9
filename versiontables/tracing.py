"""Looking back: where a row comes from, and which commit broke a query."""

from versiontables.asking import answer_query
from versiontables.commits import commit_state, read_commit
from versiontables.errors import InvalidQuery, MissingRow, NoPath, NotBroken, UnknownTable
from versiontables.graph import ancestors, first_line
from versiontables.parsing import parse_query
from versiontables.states import find_table
from versiontables.tables import find_row


def log(desk, version):
    """Return the list of the addresses of the ancestors of the commit, in descending order."""
    return ancestors(desk.chunks, desk.resolve(version))[::-1]


def blame(desk, version, table, key):
    """Return the address of the origin of a row, from the commit that the version text names on."""
    origin = desk.resolve(version)
    found = find_table(desk.chunks, commit_state(desk.chunks, origin), table)
    if found is None:
        raise UnknownTable(f"there is no table {table}")
    form, root = found
    row = find_row(desk.chunks, form, root, key)
    if row is None:
        raise MissingRow(f"the table {table} has no such row")
    earlier = _parent_with_row(desk.chunks, origin, table, form, key, row)
    while earlier is not None:
        origin = earlier
        earlier = _parent_with_row(desk.chunks, origin, table, form, key, row)
    return origin


def bisect(desk, good, bad, text):
    """Return the address of the commit that broke the query, and the list of the commits that were asked."""
    first = desk.resolve(good)
    last = desk.resolve(bad)
    tree = parse_query(text)
    line = first_line(desk.chunks, last)
    if first not in line:
        raise NoPath("the good commit does not stand in the first line of the bad one")
    line = line[:line.index(first) + 1][::-1]
    if _holds(desk, tree, first) or not _holds(desk, tree, last):
        raise NotBroken("the query holds at the good commit, or not at the bad one")
    asked = []
    low = 0
    high = len(line) - 1
    while high - low > 1:
        middle = (low + high) // 2
        asked.append(line[middle])
        if _holds(desk, tree, line[middle]):
            high = middle
        else:
            low = middle
    return line[high], asked


def _parent_with_row(chunks, commit, table, form, key, row):
    """Return the first parent of the commit with the row in a table of this name and form, or None."""
    for parent in read_commit(chunks, commit)[1]:
        found = find_table(chunks, commit_state(chunks, parent), table)
        if found is not None and found[0] == form and find_row(chunks, form, found[1], key) == row:
            return parent
    return None


def _holds(desk, tree, commit):
    """Return True if the query holds at the commit, otherwise False."""
    try:
        _, rows = answer_query(desk, tree, commit_state(desk.chunks, commit))
    except InvalidQuery:
        return False
    return len(rows) > 0
