"""The values of expressions, and the rows of queries."""

from versiontables.checking import query_columns

BOUND = 10 ** 60


def evaluate(tree, columns, row):
    """Return the value of a valid expression for the row."""
    word = tree[0]
    if word in ("int", "text"):
        return tree[1]
    if word == "column":
        return row[_place(columns, tree[1])]
    values = [evaluate(operand, columns, row) for operand in tree[1:]]
    if word == "null":
        return values[0] is None
    if word in ("and", "or"):
        # One operand with this value decides, whatever the other one is.
        deciding = word == "or"
        if deciding in values:
            return deciding
        return None if None in values else not deciding
    if None in values:
        return None
    if word == "not":
        return not values[0]
    if word in ("neg", "add", "sub", "mul"):
        return _bounded(_compute(word, values))
    return _compare(word, values[0], values[1])


def run_query(tree, catalog):
    """Return the list of the rows of a valid query."""
    word = tree[0]
    if word == "source":
        return list(catalog[tree[1:]][1])
    rows = run_query(tree[1], catalog)
    if word == "union":
        return rows + run_query(tree[2], catalog)
    if word == "limit":
        return rows[:tree[2]]
    if word == "distinct":
        # A dict keeps the order in which its keys were added.
        return list({row: True for row in rows})
    columns = query_columns(tree[1], catalog)
    if word == "where":
        return [row for row in rows if evaluate(tree[2], columns, row) is True]
    if word == "keep":
        return [tuple([evaluate(expression, columns, row) for expression, _ in tree[2]]) for row in rows]
    if word == "join":
        return _join_rows(tree, catalog, rows)
    if word == "group":
        return _group_rows(columns, rows, tree[2], tree[3])
    return _order_rows(columns, rows, tree[2])


def _place(columns, name):
    return [column[0] for column in columns].index(name)


def _compute(word, values):
    if word == "neg":
        return -values[0]
    left, right = values
    if word == "add":
        return left + right
    if word == "sub":
        return left - right
    return left * right


def _bounded(number):
    """Return the number, or None if it is no value."""
    return number if abs(number) < BOUND else None


def _compare(word, left, right):
    if word == "equal":
        return left == right
    if word == "unequal":
        return left != right
    if word == "less":
        return left < right
    if word == "atmost":
        return left <= right
    if word == "more":
        return left > right
    return left >= right


def _join_rows(tree, catalog, rows):
    columns = query_columns(tree, catalog)
    others = run_query(tree[2], catalog)
    condition = tree[3]
    return [row + other for row in rows for other in others if evaluate(condition, columns, row + other) is True]


def _group_rows(columns, rows, names, totals):
    places = [_place(columns, name) for name in names]
    groups = {}
    for row in rows:
        groups.setdefault(tuple([row[place] for place in places]), []).append(row)
    found = []
    for values, group in groups.items():
        found.append(values + tuple([_total(columns, group, word, name) for word, name, _ in totals]))
    return found


def _total(columns, rows, word, name):
    if word == "count":
        return len(rows)
    place = _place(columns, name)
    values = [row[place] for row in rows if row[place] is not None]
    if not values:
        return None
    if word == "sum":
        return _bounded(sum(values))
    return min(values) if word == "least" else max(values)


def _order_rows(columns, rows, keys):
    # Sorting keeps the order of equal rows, so the last key comes first and the first one last.
    for name, down in keys[::-1]:
        place = _place(columns, name)
        ranked = [(_rank(row[place]), row) for row in rows]
        if down == 1:
            ranked = sorted(ranked, key=lambda pair: pair[0], reverse=True)
        else:
            ranked = sorted(ranked, key=lambda pair: pair[0])
        rows = [row for _, row in ranked]
    return rows


def _rank(value):
    """Return what a value is sorted by: None comes before all others."""
    return () if value is None else (value,)
