"""A plain model of desks and peers: the document's rules, told a second time, over tables instead of chunks."""

import re

from tests.test_merging import states_merged
from tests.test_running import told_value
from tests.test_soundness import expected as told_violations
from versiontables.checking import expression_kind, query_columns, sources
from versiontables.chunks import Chunks
from versiontables.codec import decode
from versiontables.commits import write_commit
from versiontables.errors import (
    DuplicateKey, DuplicateName, DuplicateTable, HeadBranch, InvalidName, InvalidQuery, InvalidRow, InvalidVersion, KeyChanged,
    MissingRow, NoPath, NotBroken, NotClean, NothingToCommit, NotMerging, NotPickable, PickConflict, UnknownConflict, UnknownName,
    UnknownTable, UnknownVersion, UnresolvedConflicts, Unsound,
)
from versiontables.forms import column_names, fits, key_signature, reshape, split_row
from versiontables.parsing import parse_expression, parse_query
from versiontables.running import run_query
from versiontables.states import plain_tables, write_state
from versiontables.tables import write_rows

NAME = "[a-z]{1,12}"
VERSION = re.compile("(@|" + NAME + "|/" + NAME + "|:[1-9][0-9]{0,17})([~^]*)")


def demand(holds, error):
    if not holds:
        raise error("told by the model")


class Number(int):
    """The number of a commit in the world."""


class World:
    """All commits, with numbers in the order in which they were created: triples (tables, parents, message).

    Tables are dicts from names to pairs (form, rows), the rows in order of their keys; nobody changes them.
    """

    def __init__(self, book):
        self.scratch = Chunks(book)
        self.commits = []
        self.numbers = {}
        self.addresses = []
        self.states = {}
        self.create({}, (), "")

    def create(self, tables, parents, message):
        content = (self.state_key(tables), tuple(parents), message)
        if content not in self.numbers:
            self.numbers[content] = Number(len(self.commits))
            self.commits.append((tables, tuple(parents), message))
        return self.numbers[content]

    def state_key(self, tables):
        return tuple((name, tables[name][0], tuple(tables[name][1])) for name in sorted(tables))

    def state_address(self, tables):
        key = self.state_key(tables)
        if key not in self.states:
            triples = [(name, form, write_rows(self.scratch, form, rows)) for name, (form, rows) in tables.items()]
            self.states[key] = write_state(self.scratch, triples)
        return self.states[key]

    def link(self):
        """Find the addresses of the commits; return whether the program had created all of them, in order."""
        known = len(self.scratch.book)
        for tables, parents, message in self.commits[len(self.addresses):]:
            parents = tuple(self.addresses[parent] for parent in parents)
            self.addresses.append(write_commit(self.scratch, self.state_address(tables), parents, message))
        return len(self.scratch.book) == known and self.addresses == sorted(set(self.addresses))

    def real(self, told):
        """What the program tells in place of what the model tells."""
        if isinstance(told, Number):
            return self.addresses[told]
        if isinstance(told, (tuple, list)):
            return type(told)(self.real(part) for part in told)
        return {key: self.real(value) for key, value in told.items()} if isinstance(told, dict) else told

    def tables(self, commit):
        return self.commits[commit][0]

    def parents(self, commit):
        return self.commits[commit][1]

    def ancestors(self, *commits):
        found = set()
        waiting = list(commits)
        while waiting:
            commit = waiting.pop()
            if commit not in found:
                found.add(commit)
                waiting.extend(self.parents(commit))
        return found

    def first_line(self, commit):
        line = [commit]
        while self.parents(line[-1]):
            line.append(self.parents(line[-1])[0])
        return line

    def base(self, one, two):
        return max(self.ancestors(one) & self.ancestors(two))


class ModelDesk:
    """A desk, with the functions of the program as methods. `held` are the commits that the store holds."""

    def __init__(self, world):
        self.world = world
        root = Number(0)
        self.branches, self.tags, self.fars = {"main": root}, {}, {}
        self.head = ("branch", "main")
        self.working = {}
        self.merging = None
        self.held = {root}

    def copy(self):
        desk = ModelDesk(self.world)
        desk.branches, desk.tags, desk.fars = dict(self.branches), dict(self.tags), dict(self.fars)
        desk.head, desk.working, desk.merging = self.head, self.working, self.merging
        desk.held = set(self.held)
        return desk

    def told(self):
        """All that point 46 tells, as the program tells it."""
        world = self.world
        parts = [self.branches, self.tags, self.fars, self.head, self.merging]
        return [world.real(part) for part in parts] + [world.state_address(self.working)]

    def head_commit(self):
        return self.branches[self.head[1]] if self.head[0] == "branch" else self.head[1]

    def head_tables(self):
        return self.world.tables(self.head_commit())

    def clean(self):
        return self.merging is None and self.working == self.head_tables()

    def names(self):
        """The commits that the desk names."""
        found = [*self.branches.values(), *self.tags.values(), *self.fars.values(), self.head_commit()]
        return found + ([self.merging[0]] if self.merging else [])

    def sweep(self):
        self.held = self.world.ancestors(*self.names())

    def resolve(self, text):
        match = VERSION.fullmatch(text)
        demand(match and len(text) <= 60, InvalidVersion)
        base, steps = match.groups()
        if base == "@":
            commit = self.head_commit()
        elif base[0] == "/":
            commit = self.fars.get(base[1:])
        elif base[0] == ":":
            commit = next((one for one in self.held if self.world.addresses[one] == int(base[1:])), None)
        else:
            commit = self.branches.get(base, self.tags.get(base))
        for step in steps:
            if commit is not None:
                commit = dict(zip("~^", self.world.parents(commit))).get(step)
        demand(commit is not None, UnknownVersion)
        return commit

    def move(self, commit):
        if self.head[0] == "branch":
            self.branches[self.head[1]] = commit
        else:
            self.head = ("commit", commit)

    def take_up(self, commit):
        self.move(commit)
        self.working = self.world.tables(commit)

    def create(self, tables, parents, message):
        commit = self.world.create(tables, parents, message)
        self.held.add(commit)
        return commit

    # Editing

    def table(self, name):
        demand(name in self.working, UnknownTable)
        return self.working[name]

    def set_table(self, name, form, rows):
        rows = sorted(rows, key=lambda row: split_row(form, row)[0])
        self.working = {**self.working, name: (form, rows)}

    def create_table(self, name, form):
        demand(re.fullmatch(NAME, name), InvalidName)
        demand(name not in self.working, DuplicateTable)
        self.set_table(name, form, [])

    def drop_table(self, name):
        self.table(name)
        self.working = {other: table for other, table in self.working.items() if other != name}

    def alter_table(self, name, form):
        old, rows = self.table(name)
        demand(key_signature(old) == key_signature(form), KeyChanged)
        self.set_table(name, form, [reshape(old, form, row) for row in rows])

    def put_rows(self, name, rows):
        form, before = self.table(name)
        demand(all(fits(form, row) for row in rows), InvalidRow)
        keys = [split_row(form, row)[0] for row in rows]
        demand(len(keys) == len(set(keys)), DuplicateKey)
        kept = [row for row in before if split_row(form, row)[0] not in keys]
        self.set_table(name, form, kept + rows)
        return len(kept) + len(rows) - len(before)

    def remove_rows(self, name, keys):
        form, before = self.table(name)
        kept = [row for row in before if split_row(form, row)[0] not in keys]
        self.set_table(name, form, kept)
        return len(before) - len(kept)

    def dicts(self, form, rows, condition):
        """For each row whether the condition is True, and the row as a dict."""
        found = [dict(zip(column_names(form), row)) for row in rows]
        return [(told_value(condition, row) is True, row) for row in found]

    def kinds(self, form):
        return tuple((name, kind.strip("?")) for name, kind, *_ in form[0])

    def update_rows(self, name, assignments, condition):
        form, rows = self.table(name)
        trees = [(column, parse_expression(text)) for column, text in assignments]
        condition = parse_expression(condition)
        kinds = self.kinds(form)
        assigned = [column for column, _ in trees]
        for column, tree in trees:
            demand(assigned.count(column) == 1 and column in dict(kinds) and column not in form[1], InvalidQuery)
            demand(expression_kind(tree, kinds) == dict(kinds)[column], InvalidQuery)
        demand(expression_kind(condition, kinds) == "truth", InvalidQuery)
        found = self.dicts(form, rows, condition)
        new = [{**row, **({column: told_value(tree, row) for column, tree in trees} if met else {})} for met, row in found]
        new = [tuple(row[column] for column in column_names(form)) for row in new]
        demand(all(fits(form, row) for row in new), InvalidRow)
        self.set_table(name, form, new)
        return sum(met for met, _ in found)

    def remove_where(self, name, condition):
        form, rows = self.table(name)
        condition = parse_expression(condition)
        demand(expression_kind(condition, self.kinds(form)) == "truth", InvalidQuery)
        met = [met for met, _ in self.dicts(form, rows, condition)]
        self.set_table(name, form, [row for row, gone in zip(rows, met) if not gone])
        return sum(met)

    # Asking

    def ask(self, text, *, version=None):
        tree = parse_query(text)
        return self.answer(tree, self.working if version is None else self.world.tables(self.resolve(version)))

    def answer(self, tree, tables):
        catalog = {}
        for name, version in sources(tree):
            found = tables
            if version is not None:
                try:
                    found = self.world.tables(self.resolve(version))
                except (InvalidVersion, UnknownVersion):
                    raise InvalidQuery("told by the model") from None
            demand(name in found, InvalidQuery)
            catalog[name, version] = self.kinds(found[name][0]), found[name][1]
        return query_columns(tree, catalog), run_query(tree, catalog)

    # Committing

    def sound(self, tables):
        return not told_violations([(name, form, rows) for name, (form, rows) in tables.items()])

    def commit(self, message):
        demand(not (self.merging and self.merging[1]), UnresolvedConflicts)
        demand(not self.clean(), NothingToCommit)
        demand(self.sound(self.working), Unsound)
        parents = [self.head_commit()] + ([self.merging[0]] if self.merging else [])
        commit = self.create(self.working, parents, message)
        self.move(commit)
        self.merging = None
        return commit

    def new_name(self, name):
        demand(re.fullmatch(NAME, name), InvalidName)
        demand(name not in {**self.branches, **self.tags}, DuplicateName)

    def add_branch(self, name, version="@"):
        self.new_name(name)
        self.branches[name] = self.resolve(version)

    def add_tag(self, name, version="@"):
        self.new_name(name)
        self.tags[name] = self.resolve(version)

    def drop_branch(self, name):
        demand(name in self.branches, UnknownName)
        demand(self.head != ("branch", name), HeadBranch)
        del self.branches[name]

    def drop_tag(self, name):
        demand(name in self.tags, UnknownName)
        del self.tags[name]

    def checkout(self, version):
        commit = self.resolve(version)
        demand(self.clean(), NotClean)
        self.head = ("branch", version) if version in self.branches else ("commit", commit)
        self.working = self.world.tables(commit)
        return commit

    def reset(self, version):
        commit = self.resolve(version)
        self.take_up(commit)
        self.merging = None
        return commit

    # Joining

    def merge(self, version):
        other = self.resolve(version)
        demand(self.clean(), NotClean)
        head = self.head_commit()
        if other in self.world.ancestors(head):
            return "same"
        if head in self.world.ancestors(other):
            self.take_up(other)
            return "forward"
        sides = [self.world.tables(commit) for commit in (self.world.base(head, other), head, other)]
        self.working, found = states_merged(*sides)
        self.merging = (other, found)
        return "conflicts" if found else "joined"

    def conflicts(self):
        return self.merging[1] if self.merging else []

    def settle(self, index, side):
        demand(self.merging, NotMerging)
        other, found = self.merging
        demand(index in range(len(found)), UnknownConflict)
        if side == "theirs":
            self.settle_to(self.world.tables(other), found[index])
        self.merging = (other, found[:index] + found[index + 1:])
        return len(found) - 1

    def settle_to(self, tables, conflict):
        name = conflict[1]
        if conflict[0] == "table":
            self.working = {other: table for other, table in self.working.items() if other != name}
            if name in tables:
                self.working[name] = tables[name]
            return
        if name not in self.working or name not in tables:
            return
        form, rows = self.working[name]
        their_form, their_rows = tables[name]
        if key_signature(form) != key_signature(their_form):
            return
        by_key = {split_row(form, row)[0]: row for row in rows}
        theirs = {split_row(form, row)[0]: row for row in [reshape(their_form, form, row) for row in their_rows]}
        _, _, key, columns = conflict
        if not columns:
            by_key[key] = theirs.get(key)
        elif key in by_key and key in theirs:
            both = zip(column_names(form), by_key[key], theirs[key])
            by_key[key] = tuple(their_value if column in columns else value for column, value, their_value in both)
        self.set_table(name, form, [row for row in by_key.values() if row is not None])

    def abort(self):
        demand(self.merging, NotMerging)
        self.working = self.head_tables()
        self.merging = None

    # Replaying

    def carried(self, base, ours, theirs):
        found, still = states_merged(self.world.tables(base), ours, self.world.tables(theirs))
        demand(not still, PickConflict)
        return found

    def pickable(self, version):
        commit = self.resolve(version)
        demand(self.clean(), NotClean)
        demand(len(self.world.parents(commit)) == 1, NotPickable)
        return commit, self.world.parents(commit)[0]

    def create_carried(self, base, theirs, message):
        found = self.carried(base, self.head_tables(), theirs)
        demand(found != self.head_tables(), NothingToCommit)
        demand(self.sound(found), Unsound)
        commit = self.create(found, [self.head_commit()], message)
        self.take_up(commit)
        return commit

    def pick(self, version):
        commit, parent = self.pickable(version)
        return self.create_carried(parent, commit, self.world.commits[commit][2])

    def undo(self, version):
        commit, parent = self.pickable(version)
        return self.create_carried(commit, parent, self.world.commits[commit][2])

    def replay(self, version):
        other = self.resolve(version)
        demand(self.clean(), NotClean)
        work = []
        for commit in self.world.first_line(self.head_commit()):
            if commit in self.world.ancestors(other):
                break
            work.insert(0, commit)
        demand(all(len(self.world.parents(commit)) == 1 for commit in work), NotPickable)
        tables, steps = self.world.tables(other), []
        for commit in work:
            before, tables = tables, self.carried(self.world.parents(commit)[0], tables, commit)
            if tables != before:
                demand(self.sound(tables), Unsound)
                steps.append((tables, self.world.commits[commit][2]))
        created = []
        for tables, message in steps:
            created.append(self.create(tables, [created[-1] if created else other], message))
        self.take_up(created[-1] if created else other)
        return created

    # Tracing

    def log(self, version):
        return sorted(self.world.ancestors(self.resolve(version)), reverse=True)

    def row(self, commit, table, key):
        """The form and the row of a key, or None."""
        form, rows = self.world.tables(commit).get(table, (None, []))
        return next(((form, row) for row in rows if split_row(form, row)[0] == key), None)

    def blame(self, version, table, key):
        commit = self.resolve(version)
        demand(table in self.world.tables(commit), UnknownTable)
        wanted = self.row(commit, table, key)
        demand(wanted is not None, MissingRow)
        line = [commit]
        while line:
            commit = line[0]
            line = [parent for parent in self.world.parents(commit) if self.row(parent, table, key) == wanted]
        return commit

    def holds(self, tree, commit):
        try:
            return self.answer(tree, self.world.tables(commit))[1] != []
        except InvalidQuery:
            return False

    def bisect(self, good, bad, text):
        good, bad = self.resolve(good), self.resolve(bad)
        tree = parse_query(text)
        line = self.world.first_line(bad)
        demand(good in line, NoPath)
        line = line[line.index(good)::-1]
        demand(not self.holds(tree, good) and self.holds(tree, bad), NotBroken)
        low, high, asked = 0, len(line) - 1, []
        while high - low > 1:
            middle = (low + high) // 2
            asked.append(line[middle])
            low, high = (low, middle) if self.holds(tree, line[middle]) else (middle, high)
        return line[high], asked


def told_children(text):
    """The children of a chunk, as point 58 tells."""
    chunk = decode(text)
    if chunk[0] == "commit":
        return [chunk[1]] + list(chunk[2])
    return {"rows": [], "node": [entry[1] for entry in chunk[-1]], "state": [table[-1] for table in chunk[-1]]}[chunk[0]]


class ModelFetch:
    """A fetch; the store is a set of addresses that is given to each question."""

    def __init__(self, tips):
        self.tips = tips
        self.kept = {}

    def wants(self, store):
        met, waiting = set(), list(self.tips)
        while waiting:
            address = waiting.pop()
            if address not in store and address not in met:
                met.add(address)
                waiting.extend(told_children(self.kept[address]) if address in self.kept else [])
        return met - set(self.kept)


class ModelPeer:
    """A peer over a model desk. `store` is what the store of the desk holds; whoever changes the store tells it."""

    def __init__(self, desk, store, book):
        self.desk, self.store, self.book = desk, store, book
        self.far = None
        self.offers = []
        self.answers = []

    def goals(self):
        return ([self.far] if self.far else []) + self.offers

    def number(self, address):
        """The number of a commit."""
        return Number(self.desk.world.addresses.index(address))

    def reach(self):
        answers = []
        while True:
            goal = next((goal for goal in self.goals() if not goal[1].wants(self.store)), None)
            if goal is None:
                return answers
            letter, fetch = goal
            self.store |= set(fetch.kept)
            if letter[0] == "refs":
                self.far = None
                self.desk.fars = {name: self.number(commit) for name, commit in letter[1]}
                self.desk.held |= self.desk.world.ancestors(*self.desk.fars.values())
            else:
                self.offers.remove(goal)
                commit = self.number(letter[2])
                self.desk.held |= self.desk.world.ancestors(commit)
                answers.append(("taken" if self.takes(letter[1], commit) else "refused",) + letter[1:])

    def takes(self, name, commit):
        desk = self.desk
        if name in desk.tags:
            return False
        is_head = desk.head == ("branch", name)
        if name in desk.branches:
            if desk.branches[name] == commit:
                return True
            if desk.branches[name] not in desk.world.ancestors(commit) or (is_head and not desk.clean()):
                return False
        desk.branches[name] = commit
        if is_head:
            desk.working = desk.world.tables(commit)
        return True

    def wanted(self, addresses):
        return [("want", address) for address in sorted(addresses)]

    def receive(self, letter):
        word = letter[0]
        kept = []
        if word == "refs":
            self.far = (letter, ModelFetch([commit for _, commit in letter[1]]))
        elif word == "offer" and letter not in [told for told, _ in self.offers]:
            self.offers.append((letter, ModelFetch([letter[2]])))
        elif word == "chunk":
            _, address, text = letter
            for goal in self.goals():
                before = goal[1].wants(self.store)
                if address in before and self.book.find(text) == address:
                    goal[1].kept[address] = text
                    kept.append((goal, before))
        answers = self.reach()
        if word == "ask":
            pairs = self.desk.world.real(sorted(self.desk.branches.items()))
            return answers + [("refs", tuple(pairs))]
        if word in ("taken", "refused"):
            self.answers.append(letter)
        if word == "want":
            return answers + [("chunk", letter[1], None)] * (letter[1] in self.store)
        if word == "chunk":
            still = [(goal, before) for goal, before in kept if goal in self.goals()]
            return answers + self.wanted(set().union(*[goal[1].wants(self.store) - before for goal, before in still]))
        still = [fetch for told, fetch in self.goals() if told == letter]
        return answers + (self.wanted(still[0].wants(self.store)) if still else [])

    def again(self):
        answers = self.reach()
        return answers + self.wanted(set().union(*[fetch.wants(self.store) for _, fetch in self.goals()]))


def desk_told(desk):
    """All that point 46 tells of a desk of the program, in the form of `ModelDesk.told`."""
    merging = None if desk.merging is None else (desk.merging[0], list(desk.merging[1]))
    return [dict(desk.branches), dict(desk.tags), dict(desk.fars), desk.head, merging, desk.working]


def tables_of(desk, state=None):
    """The tables of a state of the store of a desk, as the model has them."""
    found = plain_tables(desk.chunks, desk.working if state is None else state)
    return {name: (form, rows) for name, form, rows in found}
