"""Patches, which tell what differs between two states."""

from versiontables.comparing import compare
from versiontables.errors import PatchMismatch
from versiontables.forms import fits, key_signature, split_row
from versiontables.states import read_state, tables_by_name, write_state
from versiontables.tables import optional_row, read_rows, reshape_rows
from versiontables.trees import build, edit, find


class Draft:
    """A table that is changed: the rows of a tree, and changes that are not made in it yet."""

    def __init__(self, form, root):
        self.form = form
        self.root = root
        self.changes = {}

    def rest_of(self, chunks, key):
        """Return the rest of the row that the table has with the key, or None."""
        if key in self.changes:
            return self.changes[key]
        return find(chunks, self.root, key)

    def change(self, key, rest):
        """Have the row with this key and this rest, or none if the rest is None."""
        self.changes[key] = rest

    def write(self, chunks):
        """Put the tree of the rows as they are now; return its address."""
        return edit(chunks, self.root, [(key, self.changes[key]) for key in sorted(self.changes)])


def diff(chunks, first, second):
    """Return the patch from the first state to the second one."""
    if first == second:
        return []
    before = tables_by_name(chunks, first)
    after = tables_by_name(chunks, second)
    patch = []
    for name in sorted(set(list(before) + list(after))):
        patch.extend(_table_steps(chunks, name, before.get(name), after.get(name)))
    return patch


def apply_patch(chunks, state, patch):
    """Return the address of the state that all steps of the patch leave."""
    drafts = {name: Draft(form, root) for name, form, root in read_state(chunks, state)}
    for step in patch:
        _apply_step(chunks, drafts, step)
    tables = [(name, drafts[name].form, drafts[name].write(chunks)) for name in drafts]
    return write_state(chunks, tables)


def _table_steps(chunks, name, old, new):
    """Return the steps for a table, which is a pair (form, root), or None where a state has none."""
    if old is None:
        return _creating_steps(chunks, name, new)
    if new is None:
        return [("drop", name)]
    if key_signature(old[0]) != key_signature(new[0]):
        return [("drop", name)] + _creating_steps(chunks, name, new)
    return _changing_steps(chunks, name, old, new)


def _creating_steps(chunks, name, table):
    form, root = table
    rows = read_rows(chunks, form, root)
    return [("create", name, form)] + [("row", name, None, row) for row in rows]


def _changing_steps(chunks, name, old, new):
    old_form, old_root = old
    form, root = new
    steps = []
    if old_form != form:
        steps.append(("form", name, form))
        old_root = reshape_rows(chunks, old_form, form, old_root)
    for key, old_rest, rest in compare(chunks, old_root, root):
        steps.append(("row", name, optional_row(form, key, old_rest), optional_row(form, key, rest)))
    return steps


def _apply_step(chunks, drafts, step):
    word, name = step[:2]
    if word == "create":
        if name in drafts:
            raise PatchMismatch(f"there is already a table {name}")
        drafts[name] = Draft(step[2], build(chunks, []))
    elif name not in drafts:
        raise PatchMismatch(f"there is no table {name}")
    elif word == "drop":
        del drafts[name]
    elif word == "form":
        drafts[name] = _reshaped_draft(chunks, drafts[name], step[2])
    else:
        _change_row(chunks, drafts[name], step[2], step[3])


def _reshaped_draft(chunks, draft, form):
    if key_signature(draft.form) != key_signature(form):
        raise PatchMismatch("a new form has another key signature")
    return Draft(form, reshape_rows(chunks, draft.form, form, draft.write(chunks)))


def _change_row(chunks, draft, old, new):
    rows = [row for row in (old, new) if row is not None]
    if not rows or not all([fits(draft.form, row) for row in rows]):
        raise PatchMismatch("a tuple is not a row of the form of the table")
    key = split_row(draft.form, rows[0])[0]
    if split_row(draft.form, rows[-1])[0] != key:
        raise PatchMismatch("two rows of a step have different keys")
    if optional_row(draft.form, key, draft.rest_of(chunks, key)) != old:
        raise PatchMismatch("the table does not have the row that a step replaces")
    draft.change(key, None if new is None else split_row(draft.form, new)[1])
