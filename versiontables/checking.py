"""What queries and expressions ask for, and whether they are valid."""

from versiontables.errors import InvalidQuery

ARITHMETIC = ("neg", "add", "sub", "mul")
LOGIC = ("not", "and", "or")


def sources(tree):
    """Return the list of the pairs (name, version) of the sources of the query, each once."""
    # A dict keeps the order in which its keys were added.
    return list({source: True for source in _all_sources(tree)})


def expression_kind(tree, columns):
    """Return the kind of the expression over the columns."""
    word = tree[0]
    if word in ("int", "text"):
        return word
    if word == "column":
        return _column_kind(columns, tree[1])
    kinds = [expression_kind(operand, columns) for operand in tree[1:]]
    if word in ARITHMETIC:
        _check(all([kind == "int" for kind in kinds]), f"an operand of {word} is no integer")
        return "int"
    if word in LOGIC:
        _check(all([kind == "truth" for kind in kinds]), f"an operand of {word} is no truth")
        return "truth"
    _check("truth" not in kinds, f"an operand of {word} is a truth")
    _check(kinds[0] == kinds[-1], f"the operands of {word} are of two kinds")
    return "truth"


def query_columns(tree, catalog):
    """Return the columns of the query."""
    word = tree[0]
    if word == "source":
        return catalog[tree[1:]][0]
    columns = query_columns(tree[1], catalog)
    if word == "where":
        check_condition(tree[2], columns)
    elif word == "keep":
        columns = _kept_columns(columns, tree[2])
    elif word == "join":
        columns = _different(columns + query_columns(tree[2], catalog))
        check_condition(tree[3], columns)
    elif word == "union":
        _check(query_columns(tree[2], catalog) == columns, "the two sides of a union have unlike columns")
    elif word == "group":
        columns = _group_columns(columns, tree[2], tree[3])
    elif word == "order":
        for name, _ in tree[2]:
            _column_kind(columns, name)
    return columns


def check_condition(tree, columns):
    """Raise an error if the expression is invalid, or does not have the kind truth."""
    _check(expression_kind(tree, columns) == "truth", "a condition is no truth")


def _all_sources(tree):
    """Return the list of the pairs of all sources of the query, in the order of the text."""
    word = tree[0]
    if word == "source":
        return [tree[1:]]
    found = _all_sources(tree[1])
    if word in ("join", "union"):
        found.extend(_all_sources(tree[2]))
    return found


def _check(holds, message):
    if not holds:
        raise InvalidQuery(message)


def _column_kind(columns, name):
    for column_name, kind in columns:
        if column_name == name:
            return kind
    raise InvalidQuery(f"there is no column {name}")


def _kept_columns(columns, items):
    kept = tuple([(name, expression_kind(expression, columns)) for expression, name in items])
    _check(all([kind != "truth" for _, kind in kept]), "a truth cannot be kept")
    return _different(kept)


def _different(columns):
    """Return the columns, whose names must be different."""
    names = [name for name, _ in columns]
    _check(len(set(names)) == len(names), "two columns have one name")
    return columns


def _group_columns(columns, names, totals):
    grouped = [(name, _column_kind(columns, name)) for name in names]
    added = [(name, _total_kind(columns, word, column)) for word, column, name in totals]
    return _different(tuple(grouped + added))


def _total_kind(columns, word, column):
    if word == "count":
        return "int"
    kind = _column_kind(columns, column)
    _check(word != "sum" or kind == "int", f"the column {column} has no sum")
    return kind
