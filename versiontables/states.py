"""States, which are sets of tables."""

from versiontables.codec import decode, encode
from versiontables.errors import UnknownTable
from versiontables.tables import read_rows


def write_state(chunks, tables):
    """Put the chunk of the state with these tables; return its address."""
    ordered = sorted(tables, key=lambda table: table[0])
    return chunks.put(encode(("state", tuple(ordered))))


def read_state(chunks, state):
    """Return the list of the triples (name, form, root), in ascending order of the names."""
    return list(decode(chunks.get(state))[1])


def find_table(chunks, state, name):
    """Return the pair (form, root) of the table of that name, or None."""
    for table_name, form, root in read_state(chunks, state):
        if table_name == name:
            return form, root
    return None


def set_table(chunks, state, name, form, root):
    """Return the address of the state that has this table and all others."""
    return write_state(chunks, _other_tables(chunks, state, name) + [(name, form, root)])


def remove_table(chunks, state, name):
    """Return the address of the state without the table of that name."""
    return write_state(chunks, _other_tables(chunks, state, name))


def state_rows(chunks, state, name):
    """Return the list of the rows of the table of that name."""
    table = find_table(chunks, state, name)
    if table is None:
        raise UnknownTable(f"there is no table {name}")
    form, root = table
    return read_rows(chunks, form, root)


def plain_tables(chunks, state):
    """Return the list of the triples (name, form, rows), in ascending order of the names."""
    return [(name, form, read_rows(chunks, form, root)) for name, form, root in read_state(chunks, state)]


def tables_by_name(chunks, state):
    """Return a dict from the names of the tables to the pairs (form, root)."""
    return {name: (form, root) for name, form, root in read_state(chunks, state)}


def _other_tables(chunks, state, name):
    return [table for table in read_state(chunks, state) if table[0] != name]
