"""Merging three states, and resolving the conflicts that are left.

A table is a pair `(form, root)` here, or None where a state has none. With one
book, roots are equal if the rows are, so such pairs stand for form and rows.
"""

from versiontables.choices import choose, clash, has_column_like, lost_columns, merge_forms
from versiontables.comparing import compare
from versiontables.forms import column_names, find_column, key_signature, reshape, split_row
from versiontables.states import find_table, remove_table, set_table, tables_by_name, write_state
from versiontables.tables import find_row, optional_row, read_rows, reshape_rows
from versiontables.trees import build, edit


def merge_row(form, base, ours, theirs):
    """Return the merged row, or None, and the names of the columns in conflict, or None."""
    if not clash(base, ours, theirs):
        return choose(base, ours, theirs), None
    if ours is None or theirs is None:
        return ours, ()
    values = list(ours)
    names = []
    for place, name in enumerate(column_names(form)):
        if _values_clash(base, ours, theirs, place):
            names.append(name)
        elif base is not None:
            values[place] = choose(base[place], ours[place], theirs[place])
    return tuple(values), (tuple(names) if names else None)


def merge_states(chunks, base, ours, theirs):
    """Return the address of the merged state and the list of the conflicts."""
    base_tables = tables_by_name(chunks, base)
    our_tables = tables_by_name(chunks, ours)
    their_tables = tables_by_name(chunks, theirs)
    tables = []
    conflicts = []
    for name in sorted(set(list(base_tables) + list(our_tables) + list(their_tables))):
        same_name = [base_tables.get(name), our_tables.get(name), their_tables.get(name)]
        table, found = _merge_table(chunks, name, *same_name)
        if table is not None:
            tables.append((name, table[0], table[1]))
        conflicts.extend(found)
    return write_state(chunks, tables), conflicts


def resolve_conflict(chunks, state, theirs, conflict, side):
    """Return the address of the state in which the conflict is resolved to the side."""
    if side == "ours":
        return state
    name = conflict[1]
    table = find_table(chunks, state, name)
    their_table = find_table(chunks, theirs, name)
    if conflict[0] == "table":
        return _replace_table(chunks, state, name, their_table)
    if table is None or their_table is None or key_signature(table[0]) != key_signature(their_table[0]):
        return state
    changes = _resolving_changes(chunks, table, their_table, conflict[2], conflict[3])
    form, root = table
    return set_table(chunks, state, name, form, edit(chunks, root, changes))


def _values_clash(base, ours, theirs, place):
    if base is None:
        return ours[place] != theirs[place]
    return clash(base[place], ours[place], theirs[place])


def _merge_table(chunks, name, base, ours, theirs):
    """Return the merged table and the list of its conflicts."""
    if not clash(base, ours, theirs):
        return choose(base, ours, theirs), []
    form = _form_for_rows(chunks, base, ours, theirs)
    if form is None:
        return ours, [("table", name)]
    return _merge_rows(chunks, name, form, base, ours, theirs)


def _form_for_rows(chunks, base, ours, theirs):
    """Return the form in which the rows are merged, or None if the table is in conflict."""
    if ours is None or theirs is None:
        return None
    if base is None:
        return ours[0] if ours[0] == theirs[0] else None
    form = merge_forms(base[0], ours[0], theirs[0])
    if form is None:
        return None
    for name in lost_columns(base[0], form):
        if _changed_column(chunks, name, base, ours) or _changed_column(chunks, name, base, theirs):
            return None
    return form


def _changed_column(chunks, name, base, side):
    """Return True if a side still has the column of that name, but with another value in a row of the base."""
    if not has_column_like(side[0], find_column(base[0], name)):
        return False
    before = _values_by_key(chunks, name, base)
    after = _values_by_key(chunks, name, side)
    return any([after[key] != before[key] for key in after if key in before])


def _values_by_key(chunks, name, table):
    form, root = table
    place = column_names(form).index(name)
    return {split_row(form, row)[0]: row[place] for row in read_rows(chunks, form, root)}


def _merge_rows(chunks, name, form, base, ours, theirs):
    """Return the table with the merged rows and the list of its conflicts."""
    base_root = build(chunks, []) if base is None else _reshaped_root(chunks, form, base)
    our_root = _reshaped_root(chunks, form, ours)
    their_root = _reshaped_root(chunks, form, theirs)
    our_changes = {key: rest for key, _, rest in compare(chunks, base_root, our_root)}
    changes = []
    conflicts = []
    # Where theirs did not change a row, the choice is that of ours, which is there already.
    for key, base_rest, their_rest in compare(chunks, base_root, their_root):
        rests = [base_rest, our_changes.get(key, base_rest), their_rest]
        rows = [optional_row(form, key, rest) for rest in rests]
        row, columns = merge_row(form, *rows)
        changes.append((key, _optional_rest(form, row)))
        if columns is not None:
            conflicts.append(("row", name, key, columns))
    return (form, edit(chunks, our_root, changes)), conflicts


def _reshaped_root(chunks, form, table):
    if table[0] == form:
        return table[1]
    return reshape_rows(chunks, table[0], form, table[1])


def _optional_rest(form, row):
    if row is None:
        return None
    return split_row(form, row)[1]


def _replace_table(chunks, state, name, table):
    if table is None:
        return remove_table(chunks, state, name)
    return set_table(chunks, state, name, table[0], table[1])


def _resolving_changes(chunks, table, their_table, key, columns):
    """Return the list of the changes that resolve a conflict of a row to theirs."""
    form, root = table
    ours = find_row(chunks, form, root, key)
    theirs = find_row(chunks, their_table[0], their_table[1], key)
    if theirs is not None:
        theirs = reshape(their_table[0], form, theirs)
    if not columns:
        return [(key, _optional_rest(form, theirs))]
    if ours is None or theirs is None:
        return []
    values = list(ours)
    for place, name in enumerate(column_names(form)):
        if name in columns:
            values[place] = theirs[place]
    return [(key, _optional_rest(form, tuple(values)))]
