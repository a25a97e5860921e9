"""Forms of tables, and what a row is under a form."""

from versiontables.errors import InvalidForm
from versiontables.values import accepts, base_kind, is_name

MOST_COLUMNS = 12
KINDS = ("int", "int?", "text", "text?")


def make_form(columns, key):
    """Return the form with these columns and this key."""
    names = [column[0] for column in columns]
    if not 1 <= len(names) <= MOST_COLUMNS:
        raise InvalidForm("a form has 1 to 12 columns")
    if len(set(names)) < len(names):
        raise InvalidForm("two columns have one name")
    for column in columns:
        _check_column(column)
    _check_key(columns, key)
    return tuple(sorted(columns, key=lambda column: column[0])), tuple(key)


def find_column(form, name):
    """Return the column of that name, or None."""
    for column in form[0]:
        if column[0] == name:
            return column
    return None


def column_names(form):
    """Return the tuple of the names of the columns."""
    return tuple([column[0] for column in form[0]])


def plain_columns(form):
    """Return the names and base kinds of the columns, in order, as queries and expressions see them."""
    return tuple([(column[0], base_kind(column[1])) for column in form[0]])


def key_signature(form):
    """Return the names and kinds of the key columns, in the order of the key."""
    return tuple([(name, find_column(form, name)[1]) for name in form[1]])


def fits(form, row):
    """Return True if the tuple is a row of the form, otherwise False."""
    columns = form[0]
    if len(row) != len(columns):
        return False
    return all([accepts(column[1], value) for column, value in zip(columns, row)])


def split_row(form, row):
    """Return the key and the rest of a row."""
    names = column_names(form)
    values = dict(zip(names, row))
    key = tuple([values[name] for name in form[1]])
    rest = tuple([values[name] for name in names if name not in form[1]])
    return key, rest


def join_row(form, key, rest):
    """Return the row with this key and this rest."""
    names = column_names(form)
    other_names = [name for name in names if name not in form[1]]
    values = dict(zip(list(form[1]) + other_names, key + rest))
    return tuple([values[name] for name in names])


def reshape(old, new, row):
    """Return the row of the form `old` reshaped to the form `new`."""
    values = dict(zip(column_names(old), row))
    return tuple([_reshaped_value(old, values, column) for column in new[0]])


def _reshaped_value(old, values, column):
    name, kind, default = column[:3]
    old_column = find_column(old, name)
    if old_column is None or base_kind(old_column[1]) != base_kind(kind):
        return default
    return values[name] if accepts(kind, values[name]) else default


def _check_column(column):
    name, kind, default, unique, link = column
    if not is_name(name):
        raise InvalidForm(f"the name of a column is not a name: {name}")
    if kind not in KINDS:
        raise InvalidForm(f"there is no such kind: {kind}")
    if not accepts(kind, default):
        raise InvalidForm(f"the kind of the column {name} does not accept its default")
    if unique not in (0, 1):
        raise InvalidForm(f"the column {name} is neither unique nor not unique")
    if link != "" and not is_name(link):
        raise InvalidForm(f"the link of the column {name} is not a name")


def _check_key(columns, key):
    if len(key) not in (1, 2) or len(set(key)) < len(key):
        raise InvalidForm("a key is one or two different names")
    kinds = {column[0]: column[1] for column in columns}
    for name in key:
        if kinds.get(name) not in ("int", "text"):
            raise InvalidForm(f"the key needs a column without None: {name}")
