"""Reading the texts of queries and expressions."""

from versiontables.errors import SyntaxFault
from versiontables.tokens import split_tokens

MOST_LEVELS = 12
NO_NAMES = (
    "and", "as", "at", "count", "distinct", "down", "greatest", "group", "into", "is", "join", "keep", "least",
    "limit", "not", "null", "on", "or", "order", "sum", "union", "where",
)
COMPARISONS = {"=": "equal", "<>": "unequal", "<": "less", "<=": "atmost", ">": "more", ">=": "atleast"}


class Reader:
    """Goes over the tokens of a text from left to right."""

    def __init__(self, text):
        self.tokens = split_tokens(text)
        # The end of the text stands there like a token with which no query goes on.
        self.tokens.append(("end", "", len(text) + 1))
        self.index = 0
        self.levels = 0

    def next_sort(self):
        """Return the sort of the next token."""
        return self.tokens[self.index][0]

    def next_column(self):
        """Return the column of the next token."""
        return self.tokens[self.index][2]

    def sees(self, sort, value):
        """Return True if the next token has this sort and this value, otherwise False."""
        return self.tokens[self.index][:2] == (sort, value)

    def skips(self, sort, value):
        """Go over the next token if it has this sort and this value; return True if it has."""
        if not self.sees(sort, value):
            return False
        self.index += 1
        return True

    def takes(self, sort, value):
        """Go over the next token, which must have this sort and this value."""
        if not self.skips(sort, value):
            raise SyntaxFault(self.next_column())

    def takes_sort(self, sort):
        """Go over the next token, which must have this sort; return its value."""
        if self.next_sort() != sort:
            raise SyntaxFault(self.next_column())
        value = self.tokens[self.index][1]
        self.index += 1
        return value

    def takes_name(self):
        """Go over the next token, which must be a name; return it."""
        if self.tokens[self.index][1] in NO_NAMES:
            raise SyntaxFault(self.next_column())
        return self.takes_sort("word")

    def enters(self, sort, value):
        """Go over the next token, which must have this sort and this value, and open a level with it."""
        if self.levels == MOST_LEVELS:
            raise SyntaxFault(self.next_column())
        self.takes(sort, value)
        self.levels += 1

    def leaves(self):
        """Close the level that was opened last."""
        self.levels -= 1


def parse_query(text):
    """Return the tree of the query."""
    reader = Reader(text)
    tree = _read_query(reader)
    reader.takes_sort("end")
    return tree


def parse_expression(text):
    """Return the tree of the expression."""
    reader = Reader(text)
    tree = _read_expression(reader)
    reader.takes_sort("end")
    return tree


def _read_query(reader):
    tree = _read_source(reader)
    while reader.skips("sign", "|"):
        tree = _read_stage(reader, tree)
    return tree


def _read_source(reader):
    name = reader.takes_name()
    if reader.skips("word", "at"):
        return "source", name, reader.takes_sort("string")
    return "source", name, None


def _read_stage(reader, tree):
    if reader.skips("word", "where"):
        return "where", tree, _read_expression(reader)
    if reader.skips("word", "keep"):
        return "keep", tree, _read_row(reader, _read_item)
    if reader.skips("word", "join"):
        other = _read_inner_query(reader)
        reader.takes("word", "on")
        return "join", tree, other, _read_expression(reader)
    if reader.skips("word", "union"):
        return "union", tree, _read_inner_query(reader)
    if reader.skips("word", "group"):
        return _read_group(reader, tree)
    if reader.skips("word", "order"):
        return "order", tree, _read_row(reader, _read_key)
    if reader.skips("word", "limit"):
        return "limit", tree, reader.takes_sort("number")
    reader.takes("word", "distinct")
    return "distinct", tree


def _read_inner_query(reader):
    reader.enters("sign", "(")
    tree = _read_query(reader)
    reader.takes("sign", ")")
    reader.leaves()
    return tree


def _read_group(reader, tree):
    names = ()
    if not reader.skips("word", "into"):
        names = _read_row(reader, _read_name)
        reader.takes("word", "into")
    return "group", tree, names, _read_row(reader, _read_total)


def _read_row(reader, read_part):
    """Read one part or more with commas between them; return the tuple of them."""
    parts = [read_part(reader)]
    while reader.skips("sign", ","):
        parts.append(read_part(reader))
    return tuple(parts)


def _read_name(reader):
    return reader.takes_name()


def _read_item(reader):
    start = reader.index
    tree = _read_expression(reader)
    # A name in parentheses is no name alone: it needs another one behind it.
    if tree[0] == "column" and reader.index == start + 1 and not reader.sees("word", "as"):
        return tree, tree[1]
    reader.takes("word", "as")
    return tree, reader.takes_name()


def _read_total(reader):
    if reader.skips("word", "count"):
        word, column = "count", None
    else:
        word = _read_total_word(reader)
        column = reader.takes_name()
    reader.takes("word", "as")
    return word, column, reader.takes_name()


def _read_total_word(reader):
    for word in ("sum", "least", "greatest"):
        if reader.skips("word", word):
            return word
    raise SyntaxFault(reader.next_column())


def _read_key(reader):
    name = reader.takes_name()
    return name, 1 if reader.skips("word", "down") else 0


def _read_expression(reader):
    tree = _read_both(reader)
    while reader.skips("word", "or"):
        tree = ("or", tree, _read_both(reader))
    return tree


def _read_both(reader):
    tree = _read_negated(reader)
    while reader.skips("word", "and"):
        tree = ("and", tree, _read_negated(reader))
    return tree


def _read_negated(reader):
    if not reader.sees("word", "not"):
        return _read_test(reader)
    reader.enters("word", "not")
    tree = ("not", _read_negated(reader))
    reader.leaves()
    return tree


def _read_test(reader):
    tree = _read_sum(reader)
    for sign in COMPARISONS:
        if reader.skips("sign", sign):
            return COMPARISONS[sign], tree, _read_sum(reader)
    if not reader.skips("word", "is"):
        return tree
    negated = reader.skips("word", "not")
    reader.takes("word", "null")
    return ("not", ("null", tree)) if negated else ("null", tree)


def _read_sum(reader):
    tree = _read_term(reader)
    while reader.sees("sign", "+") or reader.sees("sign", "-"):
        word = "add" if reader.takes_sort("sign") == "+" else "sub"
        tree = (word, tree, _read_term(reader))
    return tree


def _read_term(reader):
    tree = _read_factor(reader)
    while reader.skips("sign", "*"):
        tree = ("mul", tree, _read_factor(reader))
    return tree


def _read_factor(reader):
    if not reader.sees("sign", "-"):
        return _read_primary(reader)
    reader.enters("sign", "-")
    tree = ("neg", _read_factor(reader))
    reader.leaves()
    return tree


def _read_primary(reader):
    if reader.next_sort() == "number":
        return "int", reader.takes_sort("number")
    if reader.next_sort() == "string":
        return "text", reader.takes_sort("string")
    if not reader.sees("sign", "("):
        return "column", reader.takes_name()
    reader.enters("sign", "(")
    tree = _read_expression(reader)
    reader.takes("sign", ")")
    reader.leaves()
    return tree
