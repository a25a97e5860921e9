"""Asking queries at a desk."""

from versiontables.checking import query_columns, sources
from versiontables.commits import commit_state
from versiontables.errors import InvalidQuery, InvalidVersion, UnknownVersion
from versiontables.forms import plain_columns
from versiontables.parsing import parse_query
from versiontables.running import run_query
from versiontables.states import find_table
from versiontables.tables import read_rows


def ask(desk, text, *, version=None):
    """Return the columns and the list of the rows of the query."""
    tree = parse_query(text)
    state = desk.working if version is None else commit_state(desk.chunks, desk.resolve(version))
    return answer_query(desk, tree, state)


def answer_query(desk, tree, state):
    """Return the columns and the rows of a query whose sources without `at` are read from the state."""
    catalog = {source: _read_source(desk, source, state) for source in sources(tree)}
    return query_columns(tree, catalog), run_query(tree, catalog)


def _read_source(desk, source, state):
    """Return the columns and the list of the rows of a source, which is a pair (name, version)."""
    name, version = source
    if version is not None:
        state = _state_of_source(desk, version)
    table = find_table(desk.chunks, state, name)
    if table is None:
        raise InvalidQuery(f"there is no table {name}")
    form, root = table
    return plain_columns(form), read_rows(desk.chunks, form, root)


def _state_of_source(desk, version):
    try:
        commit = desk.resolve(version)
    except (InvalidVersion, UnknownVersion):
        raise InvalidQuery(f"a source names no commit: {version}") from None
    return commit_state(desk.chunks, commit)
