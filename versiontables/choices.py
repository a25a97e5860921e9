"""The choice of three things, and what three forms are merged to."""

from versiontables.forms import MOST_COLUMNS, column_names, find_column, key_signature
from versiontables.values import base_kind


def clash(base, ours, theirs):
    """Return True if there is no choice of the three things, otherwise False."""
    return ours != base and theirs != base and theirs != ours


def choose(base, ours, theirs):
    """Return the choice of three things that do not clash."""
    return theirs if ours == base else ours


def merge_forms(base, ours, theirs):
    """Return the form to which three forms are merged, or None if they clash."""
    signature = key_signature(base)
    if key_signature(ours) != signature or key_signature(theirs) != signature:
        return None
    columns = []
    for name in sorted(set(column_names(base) + column_names(ours) + column_names(theirs))):
        same_name = [find_column(form, name) for form in (base, ours, theirs)]
        if clash(*same_name):
            return None
        column = choose(*same_name)
        if column is not None:
            columns.append(column)
    if len(columns) > MOST_COLUMNS:
        return None
    return tuple(columns), ours[1]


def lost_columns(base, merged):
    """Return the list of the names of the columns of the form `base` that the merged form lost."""
    return [column[0] for column in base[0] if not has_column_like(merged, column)]


def has_column_like(form, column):
    """Return True if the form has a column with the name and the base kind of the given one, otherwise False."""
    found = find_column(form, column[0])
    return found is not None and base_kind(found[1]) == base_kind(column[1])
