"""The interface: its names and arguments, and the files in which they are defined."""

import importlib
import inspect
import unittest

FUNCTIONS = {
    "codec": ["encode(item)", "decode_prefix(text, index)", "decode(text)"],
    "values": ["base_kind(kind)", "accepts(kind, value)", "is_name(text)", "digest(text)"],
    "forms": [
        "make_form(columns, key)",
        "find_column(form, name)",
        "column_names(form)",
        "key_signature(form)",
        "fits(form, row)",
        "split_row(form, row)",
        "join_row(form, key, rest)",
        "reshape(old, new, row)",
    ],
    "trees": [
        "ends_chunk(level, key, count)",
        "build(chunks, entries)",
        "read(chunks, root)",
        "size(chunks, root)",
        "height(chunks, root)",
        "find(chunks, root, key)",
        "edit(chunks, root, changes)",
        "reachable(chunks, root)",
    ],
    "comparing": ["compare(chunks, first, second)"],
    "tables": ["write_rows(chunks, form, rows)", "read_rows(chunks, form, root)", "find_row(chunks, form, root, key)"],
    "states": [
        "write_state(chunks, tables)",
        "read_state(chunks, state)",
        "find_table(chunks, state, name)",
        "set_table(chunks, state, name, form, root)",
        "remove_table(chunks, state, name)",
        "state_rows(chunks, state, name)",
        "plain_tables(chunks, state)",
    ],
    "soundness": ["violations(chunks, state)"],
    "patches": ["diff(chunks, first, second)", "apply_patch(chunks, state, patch)"],
    "choices": [
        "clash(base, ours, theirs)",
        "choose(base, ours, theirs)",
        "merge_forms(base, ours, theirs)",
        "lost_columns(base, merged)",
    ],
    "merging": [
        "merge_row(form, base, ours, theirs)",
        "merge_states(chunks, base, ours, theirs)",
        "resolve_conflict(chunks, state, theirs, conflict, side)",
    ],
    "commits": [
        "write_commit(chunks, state, parents, message)",
        "read_commit(chunks, commit)",
        "root_commit(chunks)",
    ],
    "graph": [
        "ancestors(chunks, commit)",
        "is_ancestor(chunks, first, second)",
        "merge_base(chunks, first, second)",
        "first_line(chunks, commit)",
    ],
    "versions": ["parse_version(text)", "follow(chunks, commit, steps)"],
    "tokens": ["split_tokens(text)"],
    "parsing": ["parse_query(text)", "parse_expression(text)"],
    "showing": ["show_query(tree)", "show_expression(tree)"],
    "checking": ["sources(tree)", "expression_kind(tree, columns)", "query_columns(tree, catalog)"],
    "running": ["evaluate(tree, columns, row)", "run_query(tree, catalog)"],
    "improving": ["improve_query(tree, catalog)"],
    "editing": [
        "create_table(desk, name, form)",
        "drop_table(desk, name)",
        "alter_table(desk, name, form)",
        "put_rows(desk, name, rows)",
        "remove_rows(desk, name, keys)",
        "update_rows(desk, name, assignments, condition)",
        "remove_where(desk, name, condition)",
    ],
    "asking": ["ask(desk, text, *, version=None)"],
    "committing": [
        "commit(desk, message)",
        "add_branch(desk, name, version='@')",
        "add_tag(desk, name, version='@')",
        "drop_branch(desk, name)",
        "drop_tag(desk, name)",
        "checkout(desk, version)",
        "reset(desk, version)",
    ],
    "joining": ["merge(desk, version)", "conflicts(desk)", "settle(desk, index, side)", "abort(desk)"],
    "replaying": ["pick(desk, version)", "undo(desk, version)", "replay(desk, version)"],
    "tracing": ["log(desk, version)", "blame(desk, version, table, key)", "bisect(desk, good, bad, text)"],
    "closure": ["children(text)", "closure(chunks, addresses)"],
    "sweeping": ["named(desk)", "sweep(desk)"],
}

METHODS = {
    ("book", "Book"): ["__init__()", "address(text)", "find(text)", "__len__()"],
    ("chunks", "Chunks"): [
        "__init__(book)",
        "put(text)",
        "get(address)",
        "has(address)",
        "drop(address)",
        "addresses()",
        "__len__()",
    ],
    ("desk", "Desk"): ["__init__(chunks)", "head_commit()", "head_state()", "is_clean()", "resolve(text)", "move_head(commit)"],
    ("fetching", "Fetch"): ["__init__(chunks, tips)", "wants()", "receive(address, text)", "finish()"],
    ("peers", "Peer"): ["__init__(desk)", "receive(letter)", "offer(name)", "again()", "open_goals()"],
    ("disk", "Disk"): [
        "__init__()",
        "write(name, text)",
        "sync(name)",
        "cut(name, length)",
        "read(name)",
        "total()",
        "arm(count)",
        "restart(kept)",
    ],
    ("journal", "Journal"): [
        "__init__(disk, name)", "append(item)", "sync()", "items_from(index)", "__len__()", "__iter__()",
    ],
    ("vault", "Vault"): ["__init__(disk, book)", "save()", "compact()"],
}


def parse(told):
    return told.partition("(")[0], "(" + told.partition("(")[2]


def arguments(function, of_a_class):
    """The arguments of a function, without the object of a method, as the interface writes them."""
    signature = inspect.signature(function)
    parameters = list(signature.parameters.values())
    return str(signature.replace(parameters=parameters[1:] if of_a_class else parameters))


class InterfaceTest(unittest.TestCase):
    def test_functions(self):
        for module_name, functions in FUNCTIONS.items():
            module = importlib.import_module("versiontables." + module_name)
            for name, parameters in map(parse, functions):
                with self.subTest(module_name, function=name):
                    function = getattr(module, name)
                    self.assertEqual(function.__module__, module.__name__)
                    self.assertEqual(arguments(function, False), parameters)

    def test_methods(self):
        for (module_name, class_name), methods in METHODS.items():
            module = importlib.import_module("versiontables." + module_name)
            one = getattr(module, class_name)
            self.assertEqual(one.__module__, module.__name__)
            for name, parameters in map(parse, methods):
                with self.subTest(class_name, method=name):
                    self.assertIn(name, vars(one))
                    self.assertEqual(arguments(vars(one)[name], True), parameters)


if __name__ == "__main__":
    unittest.main()
