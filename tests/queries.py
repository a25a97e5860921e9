"""What several tests of queries share: the grammar told as data, and queries made at random."""

import functools

from versiontables.errors import SyntaxFault
from versiontables.tokens import split_tokens

WORDS = (
    "and as at count distinct down greatest group into is join keep least limit not null on or order sum union where"
).split()
MOST_LEVELS = 12

# The grammar of point 38 without { } and [ ]. What stands in capitals is a token of that sort, `(+`, `not+` and `-+`
# open a level, and `)` closes it: what stands between (+ and ), and what follows not+ and -+, is a level deeper.
GRAMMAR = {
    "query": ["source", "query | stage"],
    "source": ["NAME", "NAME at STRING"],
    "stage": [
        "where expr", "keep items", "join (+ query ) on expr", "union (+ query )", "group into totals",
        "group names into totals", "order keys", "limit NUMBER", "distinct",
    ],
    "items": ["item", "items , item"],
    "item": ["NAME", "expr as NAME"],
    "names": ["NAME", "names , NAME"],
    "totals": ["total", "totals , total"],
    "total": ["count as NAME", "sum NAME as NAME", "least NAME as NAME", "greatest NAME as NAME"],
    "keys": ["key", "keys , key"],
    "key": ["NAME", "NAME down"],
    "expr": ["both", "expr or both"],
    "both": ["negated", "both and negated"],
    "negated": ["not+ negated", "test"],
    "test": ["sum", "sum is null", "sum is not null"] + ["sum " + sign + " sum" for sign in "= <> < <= > >=".split()],
    # `sum` is a word of the language, too: here it is only ever the line of the grammar.
    "sum": ["term", "sum + term", "sum - term"],
    "term": ["factor", "term * factor"],
    "factor": ["-+ factor", "primary"],
    "primary": ["NUMBER", "STRING", "NAME", "(+ expr )"],
}


@functools.lru_cache(None)
def productions(line, levels):
    """The productions of a line of the grammar while so many levels are open; a symbol is a pair."""
    found = []
    for told in GRAMMAR[line]:
        symbols, deeper = [], levels
        for part in told.split():
            if part == ")":
                deeper = levels
            if part in GRAMMAR and not (line == "total" and part == "sum"):
                symbols.append((part, deeper))
            elif part in ("(+", "not+", "-+"):
                symbols.append((part[:-1] if levels < MOST_LEVELS else "never", None))
                deeper = levels + 1
            else:
                symbols.append((part, None))
        found.append(tuple(symbols))
    return found


def is_such(token, told):
    """Whether a token is one that the grammar tells of."""
    sort, value = token[:2]
    if told == "NAME":
        return sort == "word" and value not in WORDS
    if told in ("NUMBER", "STRING"):
        return sort == told.lower()
    return sort in ("word", "sign") and value == told


def close(items, sets):
    """All items of a place of the text, from those that a token led to (the method of Earley)."""
    found, waiting = set(items), list(items)
    while waiting:
        left, symbols, dot, origin = waiting.pop()
        if dot < len(symbols) and symbols[dot][1] is not None:
            new = [(symbols[dot], one, 0, len(sets)) for one in productions(*symbols[dot])]
        elif dot == len(symbols):
            new = [(one, two, at + 1, start) for one, two, at, start in sets[origin] if at < len(two) and two[at] == left]
        else:
            new = []
        for item in new:
            if item not in found:
                found.add(item)
                waiting.append(item)
    return found


def told_fault(text, line):
    """The column of the fault of a text, or None if it is a query, as point 39 tells."""
    try:
        tokens = split_tokens(text)
    except SyntaxFault as fault:
        return fault.column
    start = ("whole", None)
    sets = []
    sets.append(close([(start, ((line, 0),), 0, 0)], sets))
    for token in tokens:
        moved = [
            (left, symbols, dot + 1, origin) for left, symbols, dot, origin in sets[-1]
            if dot < len(symbols) and symbols[dot][1] is None and is_such(token, symbols[dot][0])
        ]
        if not moved:
            return token[2]
        sets.append(close(moved, sets))
    return None if (start, ((line, 0),), 1, 0) in sets[-1] else len(text) + 1


LINES = ["expr", "both", "negated", "test", "sum", "term", "factor", "primary"]
SIGNS = {
    "or": "or", "and": "and", "equal": "=", "unequal": "<>", "less": "<", "atmost": "<=", "more": ">", "atleast": ">=",
    "add": "+", "sub": "-", "mul": "*",
}
# The line of the grammar that a tree belongs to, and those of its operands.
OPERANDS = {
    "or": ("expr", "expr", "both"), "and": ("both", "both", "negated"), "not": ("negated", "negated"), "null": ("test", "sum"),
    "add": ("sum", "sum", "term"), "sub": ("sum", "sum", "term"), "mul": ("term", "term", "factor"), "neg": ("factor", "factor"),
    "int": ("primary",), "text": ("primary",), "column": ("primary",),
}
OPERANDS.update({word: ("test", "sum", "sum") for word in ("equal", "unequal", "less", "atmost", "more", "atleast")})


def join(rng, *parts):
    """Parts of a text, with spaces between them where they must be, and at random."""
    text = ""
    for part in parts:
        touching = text[-1:].isalnum() and part[:1].isalnum() or text[-1:] + part[:1] in ("<>", "<=", ">=", "''")
        text += " " * (touching or rng.random() < 0.7) + " " * (rng.random() < 0.1) + part
    return text


def write(rng, tree, line="expr", more=0.1):
    """A text for an expression, with further parentheses at random, and the levels that it opens."""
    told = OPERANDS[tree[0]]
    negated = tree[0] == "not" and tree[1][0] == "null" and rng.random() < 0.5
    own = "test" if negated else told[0]
    if LINES.index(own) < LINES.index(line) or rng.random() < more:
        text, levels = write(rng, tree, more=0 if more < 0.01 else more / 2)
        return join(rng, "(", text, ")"), levels + 1
    if negated:
        text, levels = write(rng, tree[1][1], "sum", more)
        return join(rng, text, "is", "not", "null"), levels
    if own == "primary":
        return (str(tree[1]) if tree[0] != "text" else "'" + tree[1] + "'"), 0
    parts = [write(rng, operand, wanted, more) for operand, wanted in zip(tree[1:], told[1:])]
    levels = max(levels for _, levels in parts)
    if tree[0] == "not":
        return join(rng, "not", parts[0][0]), levels + 1
    if tree[0] == "neg":
        return join(rng, "-", parts[0][0]), levels + 1
    if tree[0] == "null":
        return join(rng, parts[0][0], "is", "null"), levels
    return join(rng, parts[0][0], SIGNS[tree[0]], parts[1][0]), levels


def listed(rng, parts):
    return join(rng, *[sign for part in parts for sign in (",", part)][1:])


def write_query(rng, tree):
    """A text for a query, and the levels that it opens."""
    if tree[0] == "source":
        return (tree[1], 0) if tree[2] is None else (join(rng, tree[1], "at", "'" + tree[2] + "'"), 0)
    before, levels = write_query(rng, tree[1])
    stage, more = write_stage(rng, tree)
    return join(rng, before, "|", stage), max(levels, more)


def write_stage(rng, tree):
    word = tree[0]
    if word == "where":
        text, levels = write(rng, tree[2])
        return join(rng, "where", text), levels
    if word == "keep":
        parts = [write(rng, expression) for expression, _ in tree[2]]
        texts = [
            name if expression == ("column", name) and rng.random() < 0.8 else join(rng, text, "as", name)
            for (text, _), (expression, name) in zip(parts, tree[2])
        ]
        return join(rng, "keep", listed(rng, texts)), max(levels for _, levels in parts)
    if word in ("join", "union"):
        text, levels = write_query(rng, tree[2])
        if word == "union":
            return join(rng, "union", "(", text, ")"), levels + 1
        condition, more = write(rng, tree[3])
        return join(rng, "join", "(", text, ")", "on", condition), max(levels + 1, more)
    if word == "group":
        totals = [join(rng, *[part for part in (word, column) if part], "as", name) for word, column, name in tree[3]]
        return join(rng, "group", *[listed(rng, tree[2])] * (tree[2] != ()), "into", listed(rng, totals)), 0
    if word == "order":
        return join(rng, "order", listed(rng, [join(rng, *[name] + ["down"] * down) for name, down in tree[2]])), 0
    return (join(rng, "limit", str(tree[2])) if word == "limit" else "distinct"), 0


NAMES = ["a", "b", "name", "counts", "sums", "nota", "isnull", "abcdefghijkl", "x"]


def any_expression(rng, size):
    """A tree of an expression of any kinds."""
    if size <= 1:
        return rng.choice([
            ("int", rng.choice([0, 7, 10 ** 18 - 1])), ("text", rng.choice(["", "and", "A|b(", " " * 60])),
            ("column", rng.choice(NAMES)),
        ])
    word = rng.choice(["neg", "not", "null"] + ["not"] * (size > 3) + list(SIGNS) + ["and", "or", "add", "sub", "mul"])
    if len(OPERANDS[word]) == 2:
        return word, any_expression(rng, size - 1)
    left = rng.randrange(1, size)
    return word, any_expression(rng, left), any_expression(rng, size - left)


def any_query(rng, size):
    """A tree of a query, which need not be valid."""
    if size <= 1:
        return "source", rng.choice(NAMES), rng.choice([None, None, "", "main~", "a b"])
    word = rng.choice(["where", "keep", "join", "union", "group", "order", "limit", "distinct"])
    if word in ("join", "union"):
        left = rng.randrange(1, size)
        found = (word, any_query(rng, left), any_query(rng, size - left))
        return found + ((any_expression(rng, rng.randrange(1, 5)),) if word == "join" else ())
    before = any_query(rng, size - 1)
    some = rng.randrange(1, 4)
    if word == "where":
        return word, before, any_expression(rng, rng.randrange(1, 9))
    if word == "keep":
        found = [(any_expression(rng, rng.choice([1, 1, 4])), rng.choice(NAMES)) for _ in range(some)]
        return word, before, tuple(found + [(("column", name), name) for name in rng.sample(NAMES, rng.randrange(2))])
    if word == "group":
        totals = [(rng.choice(["sum", "least", "greatest"]), rng.choice(NAMES), rng.choice(NAMES)) for _ in range(some)]
        totals.append(("count", None, rng.choice(NAMES)))
        return word, before, tuple(rng.sample(NAMES, rng.randrange(3))), tuple(totals)
    if word == "order":
        return word, before, tuple((rng.choice(NAMES), rng.randrange(2)) for _ in range(some))
    return (word, before, rng.choice([0, 1, 10 ** 18 - 1])) if word == "limit" else (word, before)


def valid_expression(rng, columns, kind, size):
    """A valid expression of that kind over the columns."""
    if size <= 1 and kind != "truth":
        names = [name for name, base in columns if base == kind]
        if names and rng.random() < 0.75:
            return "column", rng.choice(names)
        return (kind, rng.choice([0, 1, 2, 3, 10 ** 17])) if kind == "int" else (kind, rng.choice(["", "a", "ab", "b"]))
    if kind == "text":
        return valid_expression(rng, columns, kind, 1)
    left = rng.randrange(1, max(size, 2))
    right = max(size - left, 1)
    if kind == "int":
        word = rng.choice(["add", "sub", "mul", "neg"])
        both = [valid_expression(rng, columns, kind, part) for part in (left, right)]
        return (word,) + tuple(both[:1] if word == "neg" else both)
    word = rng.choice(["equal", "unequal", "less", "atmost", "more", "atleast", "null"] + ["and", "or", "not"] * (size > 2))
    if word in ("and", "or", "not"):
        both = [valid_expression(rng, columns, kind, part) for part in (left, right)]
        return (word,) + tuple(both[:1] if word == "not" else both)
    compared = rng.choice(["int", "int", "text"])
    both = [valid_expression(rng, columns, compared, min(part, 3)) for part in (left, right)]
    return (word,) + tuple(both[:1] if word == "null" else both)


def new_name(rng, taken):
    return rng.choice([name for name in "abcdefghijklmnopqrstuvwxyz" if name not in taken])


def valid_query(rng, catalog, size):
    """A valid query over the catalog, and its columns."""
    if size <= 1:
        source = rng.choice(sorted(catalog, key=str))
        return ("source",) + source, catalog[source][0]
    words = ["where", "where", "keep", "join", "union", "group", "order", "limit", "distinct"]
    word = rng.choice(words)
    before, columns = valid_query(rng, catalog, size - 1 if word != "join" else (size + 1) // 2)
    names = [name for name, _ in columns]
    if word == "where":
        # Some conditions name few columns, or none, or all columns of one sort.
        some = rng.sample(columns, rng.randrange(min(3, len(columns)) + 1))
        return (word, before, valid_expression(rng, some, "truth", rng.randrange(1, 5))), columns
    if word == "keep":
        found, items = [], []
        for name, kind in rng.sample(columns, rng.randrange(1, len(columns) + 1)):
            item = ("column", name) if rng.random() < 0.7 else valid_expression(rng, columns, kind, 3)
            renamed = rng.choice([one for one in names + [new_name(rng, names)] if one not in dict(found)])
            found.append((renamed, kind))
            items.append((item, renamed))
        return (word, before, tuple(items)), tuple(found)
    if word == "join":
        other, more = valid_query(rng, catalog, size // 2)
        renamed = []
        for _ in more:
            renamed.append(new_name(rng, names + renamed))
        other = ("keep", other, tuple((("column", one[0]), name) for one, name in zip(more, renamed)))
        joined = columns + tuple((name, one[1]) for one, name in zip(more, renamed))
        return (word, before, other, valid_expression(rng, joined, "truth", 3)), joined
    if word == "union":
        other = rng.choice([before, ("limit", before, 2), ("order", before, ((rng.choice(names), 1),))])
        return (word, before, other), columns
    if word == "group":
        grouped = rng.sample(columns, rng.randrange(min(3, len(columns) + 1)))
        found, totals = list(grouped), []
        for total in rng.choices(["count", "sum", "least", "greatest"], k=rng.randrange(1, 3)):
            name = new_name(rng, list(dict(found)))
            column, kind = rng.choice([one for one in columns if one[1] == "int" or total != "sum"] or [(None, None)])
            if total == "count" or column is None:
                total, column, kind = "count", None, "int"
            found.append((name, kind))
            totals.append((total, column, name))
        return (word, before, tuple(name for name, _ in grouped), tuple(totals)), tuple(found)
    if word == "order":
        return (word, before, tuple((rng.choice(names), rng.randrange(2)) for _ in range(rng.randrange(1, 4)))), columns
    return ((word, before, rng.randrange(6)) if word == "limit" else (word, before)), columns


def random_catalog(rng):
    """A catalog of sources with equal rows and with None."""
    catalog = {}
    pools = {"int": [None, 0, 1, 1, 2, 3, -4, 10 ** 59], "text": [None, "", "a", "a", "ab", "b"]}
    for source in (("pets", None), ("pets", "main~"), ("s", None)):
        columns = tuple((name, rng.choice(["int", "text"])) for name in rng.sample("abcde", rng.randrange(1, 5)))
        rows = [tuple(rng.choice(pools[kind]) for _, kind in columns) for _ in range(rng.randrange(7))]
        catalog[source] = (columns, rows + rng.sample(rows, len(rows) // 2))
    return catalog
