"""Calls made up at random for a desk, from what the model of the desk tells."""

from tests.desks import LINKED, PAIRS, STRICT, TURNED, UNIQUE, WARES, WIDER
from versiontables.errors import VersionError
from versiontables.forms import split_row

FORMS = [WARES] * 6 + [WIDER] * 3 + [STRICT, UNIQUE, LINKED, TURNED, PAIRS]
CONDITIONS = [
    "price > 2", "price is null", "id < 3", "name = 'b' or price = 1", "not price = 2", "1 = 1", "1 = 2", "id = 2", "value = 1",
    "id", "price >", "nowhere = 1", "name = ''",
]
ASSIGNMENTS = [("price", "price + 1"), ("price", "id"), ("name", "'new'"), ("price", "- price"), ("value", "left"), ("id", "1"), ("name", "(")]
QUERIES = [
    "wares", "more | where price > 1", "wares | group name into count as n, sum price as s", "wares at '@~' | keep id",
    "wares | keep id as a | join (more at 'main' | keep id as b) on a = b", "pairs", "wares |", "wares at 'nowhere'", "wares | where tone = 'red'",
    "wares | where price > 3", "wares | where name = 'c' | union (wares at 'main' | where id = 1)", "more | where id = 4",
]
NAMES = ["wares"] * 5 + ["more"] * 3 + ["pairs", "nowhere"]
BRANCHES = ["main", "side", "third", "tag", "label", "Wrong"]
MESSAGES = ["", "one", "two", "three"]


def random_row(rng, form, span=6):
    pools = {"int": range(span), "text": ["", "a", "b", "c"]}
    return tuple(rng.choice(list(pools[kind.strip("?")]) + [None] * kind.endswith("?")) for _, kind, *_ in form[0])


def random_version(rng, model):
    chance = rng.random()
    if chance < 0.06:
        return rng.choice(["", "~", "Main", ":0", "a b", "nowhere", "/nowhere", ":9999", "@^^", "main~~~~~~~~~~~~~~~~~~~~"])
    base = rng.choice([*model.branches, *model.tags] * 3 + ["/" + name for name in model.fars] * 2 + ["@"])
    if chance > 0.8:
        base = ":" + str(model.world.addresses[rng.choice(sorted(model.held)[-12:])])
    steps = rng.choice(["", "", "", "", "~", "~", "~~", "^"])
    commit = model.resolve(base)
    for step in steps:
        if not dict(zip("~^", model.world.parents(commit))).get(step):
            return base
        commit = model.resolve(":" + str(model.world.addresses[commit]) + step)
    return base + steps


def random_edit(rng, model):
    """The name and the arguments of a call that edits the working state."""
    name = rng.choice(NAMES)
    form, rows = model.working.get(name, (WARES, []))
    chance = rng.random()
    if name not in model.working or chance < 0.03:
        return "create_table", (name, rng.choice(FORMS))
    if chance < 0.06:
        return "drop_table", (name,)
    if chance < 0.12:
        return "alter_table", (name, rng.choice(FORMS))
    if chance < 0.7:
        return "put_rows", (name, [random_row(rng, form) for _ in range(rng.choice([1, 1, 2, 2, 4]))])
    if chance < 0.85:
        keys = [split_row(form, row)[0] for row in rows + [random_row(rng, form)]]
        return "remove_rows", (name, rng.sample(keys, min(len(keys), rng.choice([1, 1, 2]))))
    if chance < 0.9:
        return "remove_where", (name, rng.choice(CONDITIONS))
    return "update_rows", (name, rng.sample(ASSIGNMENTS, rng.choice([0, 1, 1, 1, 2])), rng.choice(CONDITIONS))


def random_question(rng, model):
    """The name and the arguments of a call that changes nothing."""
    version, other = random_version(rng, model), random_version(rng, model)
    name = rng.choice(["ask", "log", "blame", "bisect", "bisect", "conflicts"])
    if name == "ask":
        return name, (rng.choice(QUERIES),)
    if name == "log":
        return name, (version,)
    if name == "blame":
        try:
            tables = model.world.tables(model.resolve(version))
        except VersionError:
            tables = {}
        table = rng.choice(NAMES)
        form, rows = tables.get(table, (WARES, []))
        row = rng.choice(rows) if rows and rng.random() < 0.8 else random_row(rng, form)
        return name, (version, table, split_row(form, row)[0])
    if name == "bisect":
        bad = rng.choice(sorted(model.held))
        line = model.world.first_line(bad)
        if rng.random() < 0.8:
            version, other = (":" + str(model.world.addresses[commit]) for commit in (rng.choice(line), bad))
        return name, (version, other, rng.choice(QUERIES))
    return name, ()


def random_move(rng, model):
    """The name and the arguments of a call that moves branches or creates commits."""
    version = random_version(rng, model)
    name = rng.choice(
        ["checkout"] * 7 + ["merge"] * 5 + ["pick"] * 3 + ["undo"] * 2 + ["replay"] * 4 + ["add_branch"] * 3
        + ["reset", "add_tag", "drop_branch", "drop_tag", "abort", "commit"]
    )
    if name in ("add_branch", "add_tag"):
        return name, (rng.choice(BRANCHES),) + (version,) * (rng.random() < 0.7)
    if name in ("drop_branch", "drop_tag"):
        return name, (rng.choice(BRANCHES),)
    if name == "commit":
        return name, (rng.choice(MESSAGES),)
    if name == "checkout" and rng.random() < 0.6:
        version = rng.choice(sorted(model.branches) or ["@"])
    return name, () if name == "abort" else (version,)


def random_call(rng, model):
    chance = rng.random()
    if model.merging and chance < 0.6:
        if model.merging[1] and rng.random() < 0.85:
            return "settle", (rng.choice([0, 0, 0, 1, 2, -1]), rng.choice(["ours", "theirs", "theirs"]))
        return rng.choice([("commit", (rng.choice(MESSAGES),))] * 4 + [("abort", ())])
    if chance < 0.35:
        return random_edit(rng, model)
    if chance < 0.5:
        return random_question(rng, model)
    if not model.clean() and rng.random() < 0.85:
        # Most moves want a clean desk.
        if rng.random() < 0.7:
            return "commit", (rng.choice(MESSAGES),)
        return "reset", ("@",)
    return random_move(rng, model)
