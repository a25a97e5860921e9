"""Writing the texts of queries and expressions.

The rank of a tree tells how tightly its text holds together: where the grammar
wants a higher rank, the text stands in parentheses. No other parentheses are
written, since each of them would open a level.
"""

SIGNS = {
    "or": "or", "and": "and", "equal": "=", "unequal": "<>", "less": "<", "atmost": "<=", "more": ">",
    "atleast": ">=", "add": "+", "sub": "-", "mul": "*",
}
RANKS = {
    "or": 1, "and": 2, "not": 3, "null": 4, "equal": 4, "unequal": 4, "less": 4, "atmost": 4, "more": 4,
    "atleast": 4, "add": 5, "sub": 5, "mul": 6, "neg": 7, "int": 8, "text": 8, "column": 8,
}
TEST_RANK = 4


def show_query(tree):
    """Return a text whose tree is the given one."""
    word = tree[0]
    if word == "source":
        return tree[1] if tree[2] is None else f"{tree[1]} at '{tree[2]}'"
    return f"{show_query(tree[1])} | {_show_stage(tree)}"


def show_expression(tree):
    """Return a text whose tree is the given one."""
    word = tree[0]
    if word == "int":
        return str(tree[1])
    if word == "text":
        return f"'{tree[1]}'"
    if word == "column":
        return tree[1]
    if word == "neg":
        return "- " + _show_operand(tree[1], RANKS["neg"])
    if word == "null":
        return _show_operand(tree[1], TEST_RANK + 1) + " is null"
    if word == "not" and tree[1][0] == "null":
        # A `not` in front would open a level.
        return _show_operand(tree[1][1], TEST_RANK + 1) + " is not null"
    if word == "not":
        return "not " + _show_operand(tree[1], RANKS["not"])
    rank = RANKS[word]
    # Operators of one group associate to the left, but comparisons do not follow one another.
    left = _show_operand(tree[1], rank + 1 if rank == TEST_RANK else rank)
    return f"{left} {SIGNS[word]} {_show_operand(tree[2], rank + 1)}"


def _show_operand(tree, least_rank):
    """Return the text of the tree, in parentheses if its rank is below the least one."""
    text = show_expression(tree)
    return text if RANKS[tree[0]] >= least_rank else f"({text})"


def _show_stage(tree):
    """Return the text of the last stage of a query."""
    word = tree[0]
    if word == "where":
        return f"where {show_expression(tree[2])}"
    if word == "keep":
        return "keep " + ", ".join([_show_item(expression, name) for expression, name in tree[2]])
    if word == "join":
        return f"join ({show_query(tree[2])}) on {show_expression(tree[3])}"
    if word == "union":
        return f"union ({show_query(tree[2])})"
    if word == "group":
        return _show_names(tree[2]) + ", ".join([_show_total(total) for total in tree[3]])
    if word == "order":
        return "order " + ", ".join([name + " down" if down == 1 else name for name, down in tree[2]])
    if word == "limit":
        return f"limit {tree[2]}"
    return "distinct"


def _show_item(expression, name):
    if expression == ("column", name):
        return name
    return f"{show_expression(expression)} as {name}"


def _show_names(names):
    """Return the text of a stage `group` up to its totals."""
    if not names:
        return "group into "
    return "group " + ", ".join(names) + " into "


def _show_total(total):
    word, column, name = total
    return f"count as {name}" if word == "count" else f"{word} {column} as {name}"
