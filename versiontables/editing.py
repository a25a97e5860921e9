"""Editing the tables of the working state of a desk."""

from versiontables.checking import check_condition, expression_kind
from versiontables.errors import DuplicateTable, InvalidName, InvalidQuery, KeyChanged, UnknownTable
from versiontables.forms import column_names, key_signature, plain_columns, split_row
from versiontables.parsing import parse_expression
from versiontables.running import evaluate
from versiontables.states import find_table, remove_table, set_table
from versiontables.tables import read_rows, reshape_rows, row_entries
from versiontables.trees import build, edit, size
from versiontables.values import is_name


def create_table(desk, name, form):
    """Add a table without rows."""
    if not is_name(name):
        raise InvalidName(f"this is not a name: {name}")
    if find_table(desk.chunks, desk.working, name) is not None:
        raise DuplicateTable(f"there is already a table {name}")
    _set_table(desk, name, form, build(desk.chunks, []))


def drop_table(desk, name):
    """Remove the table."""
    _table_of(desk, name)
    desk.working = remove_table(desk.chunks, desk.working, name)


def alter_table(desk, name, form):
    """Give the table another form."""
    old_form, root = _table_of(desk, name)
    if key_signature(old_form) != key_signature(form):
        raise KeyChanged(f"the new form of the table {name} has another key signature")
    _set_table(desk, name, form, reshape_rows(desk.chunks, old_form, form, root))


def put_rows(desk, name, rows):
    """Add or replace rows; return the number of those that were added."""
    form, root = _table_of(desk, name)
    return _edit_table(desk, name, row_entries(form, rows))


def remove_rows(desk, name, keys):
    """Remove the rows with these keys; return their number."""
    _table_of(desk, name)
    return -_edit_table(desk, name, [(key, None) for key in sorted(set(keys))])


def update_rows(desk, name, assignments, condition):
    """Change columns of the rows for which the condition is True; return the number of these rows."""
    form, root = _table_of(desk, name)
    expressions = [(column, parse_expression(text)) for column, text in assignments]
    test = parse_expression(condition)
    _check_assignments(form, expressions)
    check_condition(test, plain_columns(form))
    rows = _rows_where(desk, form, root, test)
    _edit_table(desk, name, row_entries(form, [_assigned_row(form, expressions, row) for row in rows]))
    return len(rows)


def remove_where(desk, name, condition):
    """Remove the rows for which the condition is True; return their number."""
    form, root = _table_of(desk, name)
    test = parse_expression(condition)
    check_condition(test, plain_columns(form))
    rows = _rows_where(desk, form, root, test)
    return -_edit_table(desk, name, [(split_row(form, row)[0], None) for row in rows])


def _table_of(desk, name):
    """Return the form and the root of the table of that name."""
    table = find_table(desk.chunks, desk.working, name)
    if table is None:
        raise UnknownTable(f"there is no table {name}")
    return table


def _set_table(desk, name, form, root):
    desk.working = set_table(desk.chunks, desk.working, name, form, root)


def _edit_table(desk, name, changes):
    """Make the changes in the tree of the table; return by how many rows it grows."""
    form, root = _table_of(desk, name)
    new_root = edit(desk.chunks, root, changes)
    growth = size(desk.chunks, new_root) - size(desk.chunks, root)
    _set_table(desk, name, form, new_root)
    return growth


def _check_assignments(form, expressions):
    columns = plain_columns(form)
    kinds = dict(columns)
    names = [name for name, _ in expressions]
    if len(set(names)) < len(names):
        raise InvalidQuery("a column is assigned twice")
    for name, tree in expressions:
        if name not in kinds or name in form[1]:
            raise InvalidQuery(f"no column can be assigned under the name {name}")
        if expression_kind(tree, columns) != kinds[name]:
            raise InvalidQuery(f"what is assigned to the column {name} has another kind")


def _rows_where(desk, form, root, test):
    """Return the list of the rows for which the condition is True, in ascending order of their keys."""
    columns = plain_columns(form)
    return [row for row in read_rows(desk.chunks, form, root) if evaluate(test, columns, row) is True]


def _assigned_row(form, expressions, row):
    columns = plain_columns(form)
    names = column_names(form)
    values = dict(zip(names, row))
    for name, tree in expressions:
        values[name] = evaluate(tree, columns, row)
    return tuple([values[name] for name in names])
