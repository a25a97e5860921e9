"""What the tests of desks share: a desk of the program beside one of the model, and forms of tables."""

import copy
import unittest

from tests.model import ModelDesk, World, desk_told, tables_of, told_children
from versiontables.asking import ask
from versiontables.book import Book
from versiontables.chunks import Chunks
from versiontables.committing import add_branch, add_tag, checkout, commit, drop_branch, drop_tag, reset
from versiontables.desk import Desk
from versiontables.editing import alter_table, create_table, drop_table, put_rows, remove_rows, remove_where, update_rows
from versiontables.errors import SyntaxFault, VersionError
from versiontables.forms import make_form
from versiontables.joining import abort, conflicts, merge, settle
from versiontables.replaying import pick, replay, undo
from versiontables.tracing import bisect, blame, log

FUNCTIONS = {
    function.__name__: function
    for function in (
        ask, create_table, drop_table, alter_table, put_rows, remove_rows, update_rows, remove_where, commit, add_branch, add_tag,
        drop_branch, drop_tag, checkout, reset, merge, conflicts, settle, abort, pick, undo, replay, log, blame, bisect,
    )
}


def number(name, kind="int?", default=None, unique=0, link=""):
    return (name, kind, default, unique, link)


ID = ("id", "int", 0, 0, "")
WARES = make_form([ID, number("price"), ("name", "text", "", 0, "")], ["id"])
WIDER = make_form([ID, number("price"), ("name", "text", "", 0, ""), ("tone", "text?", "red", 0, "")], ["id"])
STRICT = make_form([ID, number("price", "int", 7), ("name", "text", "", 0, "")], ["id"])
UNIQUE = make_form([ID, number("price", unique=1), ("name", "text", "", 0, "")], ["id"])
LINKED = make_form([ID, number("price", link="wares"), ("name", "text", "", 0, "")], ["id"])
TURNED = make_form([("id", "text", "", 0, ""), number("price"), ("name", "text", "", 0, "")], ["id"])
PAIRS = make_form([("left", "int", 0, 0, ""), ("right", "text", "", 0, ""), number("value")], ["right", "left"])


def outcome(function, *args, **more):
    """What a call returns, or the class of the error that it raises, with its column."""
    try:
        return function(*args, **more)
    except SyntaxFault as fault:
        return SyntaxFault, fault.column
    except VersionError as error:
        return type(error)


def commits_in(chunks):
    """The addresses of the commits that a store holds."""
    return [address for address in chunks.addresses() if chunks.get(address).startswith("(t6:commit")]


class DeskCase(unittest.TestCase):
    """Each call goes to a desk of the program and to one of the model, and both must tell the same behind it."""

    def setUp(self):
        self.book = Book()
        self.world = World(self.book)
        self.begin()

    def begin(self):
        self.desk = Desk(Chunks(self.book))
        self.model = ModelDesk(self.world)
        self.world.link()
        self.root = self.desk.head_commit()

    def do(self, name, *args, **more):
        """Call a function for both desks; return what that of the program returns, or the class of its error."""
        kept = copy.deepcopy(args)
        found = outcome(FUNCTIONS[name], self.desk, *args, **more)
        told = outcome(getattr(self.model, name), *args, **more)
        self.assertEqual(args, kept, "the arguments stay")
        self.assertTrue(self.world.link(), (name, args))
        told = self.world.real(told)
        self.assertEqual(found, told, (name, args))
        self.assertEqual(type(found), type(told), (name, args))
        self.assert_same()
        return found

    def fails(self, error, name, *args, **more):
        """The call raises the error and changes nothing."""
        before = desk_told(self.desk)
        held = commits_in(self.desk.chunks)
        self.assertEqual(self.do(name, *args, **more), error)
        self.assertEqual(desk_told(self.desk), before)
        self.assertEqual(commits_in(self.desk.chunks), held)

    def assert_same(self):
        desk = self.desk
        self.assertEqual(desk_told(desk), self.model.told())
        self.assertEqual(tables_of(desk), self.model.working)
        self.assertEqual(desk.head_commit(), self.world.addresses[self.model.head_commit()])
        self.assertIs(desk.is_clean(), self.model.clean())
        self.assertEqual(commits_in(desk.chunks), sorted(self.world.addresses[one] for one in self.model.held))

    def assert_closed(self):
        """The store holds the closure of each chunk that it holds (point 47)."""
        chunks = self.desk.chunks
        for address in chunks.addresses():
            for child in told_children(chunks.get(address)):
                self.assertTrue(chunks.has(child))

    def tearDown(self):
        self.assert_closed()

    def rows(self, name):
        return tables_of(self.desk)[name][1]

    def save_as(self, message, *rows, table="wares"):
        """Put rows and commit; return the address of the commit."""
        self.do("put_rows", table, list(rows))
        return self.do("commit", message)
