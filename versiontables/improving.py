"""Queries that ask for the same rows, with their conditions as early as they may stand."""

from versiontables.checking import query_columns


def improve_query(tree, catalog):
    """Return an improved query for a valid one."""
    word = tree[0]
    if word == "source":
        return tree
    query = improve_query(tree[1], catalog)
    if word == "where":
        return _put_where(query, tree[2], catalog)
    if word in ("join", "union"):
        return (word, query, improve_query(tree[2], catalog)) + tree[3:]
    return (word, query) + tree[2:]


def _put_where(query, condition, catalog):
    """Return the improved query for a `where` behind an improved query."""
    word = query[0]
    if word == "where":
        # What kept that `where` from standing earlier keeps the two of them from it.
        return "where", query[1], ("and", query[2], condition)
    if word in ("order", "distinct"):
        return (word, _put_where(query[1], condition, catalog)) + query[2:]
    if word == "union":
        return word, _put_where(query[1], condition, catalog), _put_where(query[2], condition, catalog)
    names = _named_columns(condition)
    if word == "keep":
        origins = {name: expression[1] for expression, name in query[2] if expression[0] == "column"}
        if _all_in(names, origins):
            return word, _put_where(query[1], _renamed(condition, origins), catalog), query[2]
    if word == "join":
        return _put_where_in_join(query, condition, catalog)
    if word == "group" and _all_in(names, query[2]):
        return (word, _put_where(query[1], condition, catalog)) + query[2:]
    return "where", query, condition


def _put_where_in_join(query, condition, catalog):
    names = _named_columns(condition)
    _, left, right, on = query
    if _all_in(names, dict(query_columns(left, catalog))):
        return "join", _put_where(left, condition, catalog), right, on
    if _all_in(names, dict(query_columns(right, catalog))):
        return "join", left, _put_where(right, condition, catalog), on
    return "where", query, condition


def _all_in(names, others):
    return all([name in others for name in names])


def _named_columns(tree):
    """Return the list of the names of the columns that the expression names."""
    word = tree[0]
    if word == "column":
        return [tree[1]]
    names = []
    if word not in ("int", "text"):
        for operand in tree[1:]:
            names.extend(_named_columns(operand))
    return names


def _renamed(tree, origins):
    """Return the expression with other names of its columns."""
    word = tree[0]
    if word == "column":
        return word, origins[tree[1]]
    if word in ("int", "text"):
        return tree
    return (word,) + tuple([_renamed(operand, origins) for operand in tree[1:]])
