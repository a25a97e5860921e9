"""What is wrong with a state."""

from versiontables.forms import find_column, split_row
from versiontables.states import plain_tables
from versiontables.values import base_kind


def violations(chunks, state):
    """Return the list of the violations of the state."""
    tables = plain_tables(chunks, state)
    found = []
    for name, form, rows in tables:
        for place, column in enumerate(form[0]):
            values = [row[place] for row in rows]
            if column[3] == 1:
                found.extend([("unique", name, column[0], value) for value in _repeated(values)])
            if column[4] != "":
                found.extend(_link_violations(tables, name, form, rows, place))
    return found


def _repeated(values):
    """Return the list of the values that occur more than once, in ascending order, without None."""
    counts = {}
    for value in values:
        counts[value] = counts.get(value, 0) + 1
    return sorted([value for value in counts if value is not None and counts[value] > 1])


def _link_violations(tables, name, form, rows, place):
    column = form[0][place]
    target = _find_target(tables, column)
    if target is None:
        return [("target", name, column[0])]
    target_form, target_rows = target
    keys = {split_row(target_form, row)[0]: True for row in target_rows}
    found = []
    for row in rows:
        if row[place] is not None and (row[place],) not in keys:
            found.append(("link", name, column[0], split_row(form, row)[0]))
    return found


def _find_target(tables, column):
    """Return the form and the rows of the table to which the column links, or None if it does not suit."""
    for name, form, rows in tables:
        if name == column[4] and len(form[1]) == 1:
            key_column = find_column(form, form[1][0])
            if base_kind(key_column[1]) == base_kind(column[1]):
                return form, rows
    return None
