"""Points 60 to 63: letters between two stores."""

import collections
import random
import unittest

from tests.desks import STRICT, WARES
from tests.driver import random_call
from tests.pairs import PairsCase
from tests.test_closure import long_history
from versiontables.book import Book
from versiontables.chunks import Chunks
from versiontables.closure import closure
from versiontables.commits import commit_state
from versiontables.desk import Desk
from versiontables.errors import UnknownName
from versiontables.peers import Peer
from versiontables.sweeping import sweep


class PeersCase(PairsCase):
    """Two desks: the first one has some commits, the second one is new."""

    def setUp(self):
        super().setUp()
        self.ours, self.theirs = self.new_pair(), self.new_pair()
        self.use(self.ours)
        self.do("create_table", "wares", WARES)
        self.one = self.save_as("one", *[(number, "n", number) for number in range(12)])
        self.do("add_branch", "side")
        self.two = self.save_as("two", (3, "x", 0))
        self.do("add_tag", "tag", "@~")

    def text(self, address):
        return self.ours.desk.chunks.get(address)

    def fill(self, pair, address):
        """Let the store of a pair hold a closure, by another road than letters."""
        for child in closure(self.ours.desk.chunks, [address]):
            pair.desk.chunks.put(self.text(child))
        model = self.ours.model
        pair.model.held |= self.world.ancestors(*[commit for commit in model.held if self.world.addresses[commit] == address])

    def feed(self, letters):
        """Answer all letters `want`, and those that follow, at the pair in use; return the other letters."""
        letters = list(letters)
        others = [letter for letter in letters if letter[0] != "want"]
        waiting = [letter[1] for letter in letters if letter[0] == "want"]
        while waiting:
            address = waiting.pop()
            letters = self.receive(("chunk", address, self.text(address)))
            others += [letter for letter in letters if letter[0] != "want"]
            waiting += [letter[1] for letter in letters if letter[0] == "want"]
        return others

    def state_of_two(self):
        return commit_state(self.ours.desk.chunks, self.two)

    def wants_for(self, *addresses):
        return [("want", address) for address in sorted(addresses)]


class LettersTest(PeersCase):
    def test_a_new_peer(self):
        for pair in (self.ours, self.theirs):
            self.assertEqual((pair.peer.answers, pair.peer.open_goals(), pair.peer.again()), ([], 0, []))
            self.assertIs(pair.peer.desk, pair.desk)

    def test_ask(self):
        self.assertEqual(self.receive(("ask",)), [("refs", (("main", self.two), ("side", self.one)))])
        self.do("checkout", "side")
        self.do("drop_branch", "main")
        for name in ("zebra", "abc", "tagged"):
            self.do("add_branch", name)
        self.assertEqual(self.receive(("ask",)), [("refs", tuple((name, self.one) for name in ("abc", "side", "tagged", "zebra")))])
        self.do("checkout", "@")
        for name in ("zebra", "abc", "tagged", "side"):
            self.do("drop_branch", name)
        self.assertEqual(self.receive(("ask",)), [("refs", ())])

    def test_want(self):
        for address in (self.two, self.one, self.root, self.desk.working):
            self.assertEqual(self.receive(("want", address)), [("chunk", address, self.text(address))])
        self.use(self.theirs)
        self.assertEqual(self.receive(("want", self.two)), [])
        self.assertEqual(self.receive(("want", 999)), [])
        self.assertEqual(self.receive(("want", self.root)), [("chunk", self.root, self.text(self.root))])

    def test_offer_of_a_branch(self):
        self.assertEqual(self.ours.peer.offer("main"), ("offer", "main", self.two))
        self.assertEqual(self.ours.peer.offer("side"), ("offer", "side", self.one))
        for name in ("nowhere", "tag", "", "Main", "/main"):
            with self.assertRaises(UnknownName):
                self.ours.peer.offer(name)
        self.assertEqual(self.ours.peer.open_goals(), 0)

    def test_answers(self):
        letters = [("taken", "main", self.two), ("refused", "side", self.one), ("taken", "main", self.two), ("taken", "x", 999)]
        for letter in letters:
            self.assertEqual(self.receive(letter), [])
        self.assertEqual(self.ours.peer.answers, letters)

    def test_chunks_that_nobody_wants(self):
        self.use(self.theirs)
        for address in (self.two, self.one):
            self.assertEqual(self.receive(("chunk", address, self.text(address))), [])
        self.assertEqual(self.theirs.peer.open_goals(), 0)
        self.assertEqual(len(self.theirs.desk.chunks), 2)

    def test_lists_belong_to_the_caller(self):
        self.use(self.theirs)
        found = self.theirs.peer.receive(("offer", "main", self.two))
        found.clear()
        self.assertEqual(self.theirs.peer.again(), [("want", self.two)])
        self.theirs.peer.again().append(("want", 1))
        self.assertEqual(self.theirs.peer.again(), [("want", self.two)])


class FarBranchesTest(PeersCase):
    def setUp(self):
        super().setUp()
        self.refs = self.receive(("ask",))[0]
        self.use(self.theirs)

    def test_the_whole_way(self):
        self.assertEqual(self.receive(self.refs), self.wants_for(self.one, self.two))
        self.assertEqual(self.theirs.peer.open_goals(), 1)
        self.assertEqual(self.theirs.desk.fars, {})
        self.assertEqual(self.feed(self.again()), [])
        self.assertEqual(self.theirs.peer.open_goals(), 0)
        self.assertEqual(self.theirs.desk.fars, {"main": self.two, "side": self.one})
        self.assertEqual(self.theirs.desk.branches, {"main": self.root})
        self.assertEqual(self.do("merge", "/main"), "forward")

    def test_far_branches_become_exactly_the_pairs(self):
        self.theirs.desk.fars = {"old": self.root, "main": self.root}
        self.theirs.model.fars = {"old": self.theirs.model.branches["main"], "main": self.theirs.model.branches["main"]}
        self.feed(self.receive(self.refs))
        self.assertEqual(self.theirs.desk.fars, {"main": self.two, "side": self.one})
        self.receive(("refs", (("new", self.one),)))
        self.assertEqual(self.theirs.desk.fars, {"new": self.one})
        self.assertEqual(self.receive(("refs", ())), [])
        self.assertEqual(self.theirs.desk.fars, {})

    def test_what_is_held_is_not_wanted(self):
        self.fill(self.theirs, self.one)
        self.assertEqual(self.receive(self.refs), self.wants_for(self.two))
        self.feed(self.again())
        self.assertEqual(self.receive(self.refs), [])
        self.assertEqual(self.theirs.peer.open_goals(), 0)

    def test_a_goal_that_is_reached_at_once(self):
        self.fill(self.theirs, self.two)
        self.assertEqual(self.receive(self.refs), [])
        self.assertEqual(self.theirs.desk.fars, {"main": self.two, "side": self.one})

    def test_refs_replace_an_open_goal(self):
        self.receive(self.refs)
        self.receive(("chunk", self.two, self.text(self.two)))
        self.assertEqual(self.receive(("refs", (("only", self.one),))), self.wants_for(self.one))
        self.assertEqual(self.theirs.peer.open_goals(), 1)
        self.feed(self.again())
        self.assertEqual(self.theirs.desk.fars, {"only": self.one})
        self.assertIs(self.theirs.desk.chunks.has(self.two), False)

    def test_the_same_refs_begin_again(self):
        """A new goal replaces the open one, and with it the texts that it kept."""
        self.receive(self.refs)
        self.receive(("chunk", self.two, self.text(self.two)))
        self.assertNotIn(("want", self.two), self.again())
        self.assertEqual(self.receive(self.refs), self.wants_for(self.one, self.two))
        self.assertEqual(self.theirs.peer.open_goals(), 1)

    def test_refs_leave_offers_alone(self):
        self.receive(("offer", "main", self.two))
        self.receive(("offer", "side", self.one))
        self.receive(self.refs)
        self.receive(self.refs)
        self.assertEqual(self.theirs.peer.open_goals(), 3)


class ChunksTest(PeersCase):
    def setUp(self):
        super().setUp()
        self.use(self.theirs)

    def test_new_wants(self):
        self.receive(("offer", "main", self.two))
        found = self.receive(("chunk", self.two, self.text(self.two)))
        self.assertEqual(len(found), 2)
        self.assertIn(("want", self.one), found)
        self.assertEqual(found, sorted(found))
        # The same chunk again is not kept again: no letters.
        self.assertEqual(self.receive(("chunk", self.two, self.text(self.two))), [])
        self.assertEqual(self.again(), found)
        # Only what was not wanted before: the state of the other commit, but not what was wanted already.
        more = self.receive(("chunk", self.one, self.text(self.one)))
        self.assertEqual(len(more), 1)
        self.assertNotIn(more[0], found)

    def test_chunks_with_another_text(self):
        self.receive(("offer", "main", self.two))
        for text in ("", "n", self.text(self.one), self.text(self.two) + " ", self.text(self.two)[:-1]):
            self.assertEqual(self.receive(("chunk", self.two, text)), [])
            self.assertEqual(self.again(), self.wants_for(self.two))
        self.assertEqual(self.receive(("chunk", self.one, self.text(self.two))), [])
        self.assertNotEqual(self.receive(("chunk", self.two, self.text(self.two))), [])

    def test_two_goals_that_want_the_same_chunk(self):
        self.receive(("offer", "main", self.two))
        self.receive(("offer", "other", self.two))
        self.receive(("refs", (("far", self.two),)))
        found = self.receive(("chunk", self.two, self.text(self.two)))
        self.assertEqual(len(found), 2)
        self.assertEqual(self.again(), found)
        # A goal that is opened later has kept nothing.
        self.receive(("offer", "third", self.two))
        self.assertEqual(self.again(), sorted(found + self.wants_for(self.two)))
        # What one goal wanted before may be new for another one: it is asked for again.
        again = self.receive(("chunk", self.two, self.text(self.two)))
        self.assertEqual(again, found)

    def test_goals_reached_at_once_in_their_order(self):
        for name in ("zebra", "main", "abc"):
            self.receive(("offer", name, self.two))
        self.receive(("refs", (("far", self.two),)))
        self.assertEqual(self.theirs.peer.open_goals(), 4)
        answers = self.feed(self.again())
        self.assertEqual(answers, [("taken", name, self.two) for name in ("zebra", "main", "abc")])
        self.assertEqual(self.theirs.desk.fars, {"far": self.two})
        self.assertEqual(self.theirs.peer.open_goals(), 0)

    def test_goals_that_another_one_lets_be_reached(self):
        self.receive(("offer", "x", self.two))
        self.receive(("chunk", self.two, self.text(self.two)))
        wanted = [letter for letter in self.again() if letter != ("want", self.one)]
        wanted += self.receive(("chunk", self.one, self.text(self.one)))
        # These goals have kept nothing, and what they want is not sent again.
        self.receive(("offer", "y", self.one))
        self.receive(("refs", (("far", self.two),)))
        self.assertEqual(self.theirs.peer.open_goals(), 3)
        self.assertEqual(self.feed(wanted), [("taken", "x", self.two), ("taken", "y", self.one)])
        self.assertEqual((self.theirs.peer.open_goals(), self.theirs.desk.fars), (0, {"far": self.two}))

    def test_chunks_that_come_by_another_road(self):
        self.receive(("offer", "x", self.two))
        self.receive(("refs", (("far", self.one),)))
        self.fill(self.theirs, self.one)
        # The next letter, whatever it is, lets the goal be reached.
        self.assertEqual(self.receive(("taken", "q", 1)), [])
        self.assertEqual(self.theirs.desk.fars, {"far": self.one})
        self.fill(self.theirs, self.two)
        self.assertEqual(self.receive(("ask",)), [("taken", "x", self.two), ("refs", (("main", self.root), ("x", self.two)))])
        self.receive(("offer", "z", self.two))
        self.assertEqual(self.theirs.peer.open_goals(), 0)

    def test_again_reaches_goals(self):
        self.receive(("offer", "x", self.one))
        self.receive(("offer", "y", self.two))
        self.assertEqual(self.again(), self.wants_for(self.one, self.two))
        self.fill(self.theirs, self.one)
        self.assertEqual(self.again(), [("taken", "x", self.one), ("want", self.two)])
        self.assertEqual(self.again(), [("want", self.two)])
        self.assertEqual(self.theirs.peer.open_goals(), 1)

    def test_a_want_is_answered_when_goals_were_reached(self):
        self.receive(("offer", "x", self.two))
        self.receive(("chunk", self.two, self.text(self.two)))
        # What is kept does not lie in the store yet.
        self.assertEqual(self.receive(("want", self.two)), [])
        self.fill(self.theirs, self.one)
        self.fill(self.theirs, self.state_of_two())
        self.assertEqual(self.receive(("want", self.two)), [("taken", "x", self.two), ("chunk", self.two, self.text(self.two))])
        self.assertEqual(self.receive(("want", self.two)), [("chunk", self.two, self.text(self.two))])

    def test_sweeping_leaves_goals_alone(self):
        self.receive(("offer", "x", self.two))
        self.receive(("chunk", self.two, self.text(self.two)))
        wanted = self.again()
        sweep(self.theirs.desk)
        self.assertEqual(self.again(), wanted)
        self.fill(self.theirs, self.one)
        for child in closure(self.ours.desk.chunks, [self.one]):
            sweep(self.theirs.desk)
            self.theirs.model.sweep()
            self.assertEqual(self.again(), wanted)
        self.assertEqual(self.feed(wanted), [("taken", "x", self.two)])


class OffersTest(PeersCase):
    def setUp(self):
        super().setUp()
        self.use(self.theirs)

    def offered(self, name, commit):
        """The answer to an offer, all chunks of which are sent."""
        letters = self.receive(("offer", name, commit))
        answers = self.feed(letters)
        self.assertEqual(len(answers), 1)
        self.assertEqual(answers[0][1:], (name, commit))
        return answers[0][0]

    def test_a_new_branch(self):
        self.assertEqual(self.offered("new", self.two), "taken")
        self.assertEqual(self.theirs.desk.branches, {"main": self.root, "new": self.two})
        self.assertEqual(self.theirs.desk.head, ("branch", "main"))

    def test_the_branch_of_the_head(self):
        self.assertEqual(self.offered("main", self.one), "taken")
        self.assertEqual(len(self.rows("wares")), 12)
        self.assertIs(self.theirs.desk.is_clean(), True)
        self.assertEqual(self.offered("main", self.two), "taken")
        self.assertEqual(self.theirs.desk.branches, {"main": self.two})

    def test_another_branch(self):
        self.do("add_branch", "side")
        self.do("create_table", "mine", STRICT)
        self.assertEqual(self.offered("side", self.two), "taken")
        self.assertEqual(self.theirs.desk.branches, {"main": self.root, "side": self.two})
        self.assertEqual(sorted(self.model.working), ["mine"])

    def test_a_tag_of_that_name(self):
        self.do("add_tag", "new")
        self.assertEqual(self.offered("new", self.two), "refused")
        self.assertEqual(self.offered("new", self.root), "refused")
        self.assertEqual(self.theirs.desk.branches, {"main": self.root})
        # What was fetched for it stays in the store.
        self.assertIs(self.theirs.desk.chunks.has(self.two), True)

    def test_the_commit_is_there_already(self):
        self.offered("main", self.two)
        self.do("put_rows", "wares", [(500, "new", 0)])
        self.assertEqual(self.offered("main", self.two), "taken")
        self.assertEqual(len(self.rows("wares")), 13)
        self.do("add_tag", "tag")
        self.assertEqual(self.offered("tag", self.two), "refused")

    def test_a_commit_that_does_not_follow(self):
        self.offered("main", self.two)
        self.assertEqual(self.offered("main", self.one), "refused")
        self.assertEqual(self.offered("main", self.root), "refused")
        self.do("reset", "@~")
        self.save_as("mine", (1, "mine", 1))
        self.assertEqual(self.offered("main", self.two), "refused")
        self.do("add_branch", "other", "@~~")
        self.assertEqual(self.offered("other", self.two), "taken")

    def test_a_desk_that_is_not_clean(self):
        self.do("create_table", "mine", STRICT)
        self.assertEqual(self.offered("main", self.two), "refused")
        self.assertEqual(self.theirs.desk.branches, {"main": self.root})
        self.do("drop_table", "mine")
        self.assertEqual(self.offered("main", self.two), "taken")

    def test_an_open_merge(self):
        """A desk with an open merge is not clean, although the working state is that of the head."""
        self.offered("main", self.one)
        self.offered("far", self.two)
        mine = self.save_as("as there", (3, "x", 0))
        self.deliver(self.theirs, self.ours, [self.theirs.peer.offer("main")])
        self.use(self.ours)
        self.do("checkout", ":" + str(mine))
        newer = self.save_as("newer", (9, "newer", 9))
        self.use(self.theirs)
        self.assertEqual(self.do("merge", "far"), "joined")
        self.assertEqual(self.desk.working, self.desk.head_state())
        self.assertEqual(self.offered("main", newer), "refused")
        self.assertEqual(self.offered("far", mine), "refused")
        self.assertEqual(self.offered("other", newer), "taken")
        self.do("abort")
        self.assertEqual(self.offered("main", newer), "taken")
        self.assertEqual(self.rows("wares")[9], (9, "newer", 9))

    def test_a_head_that_is_a_commit(self):
        self.do("checkout", "@")
        self.do("create_table", "mine", STRICT)
        self.assertEqual(self.offered("main", self.two), "taken")
        self.assertEqual((self.theirs.desk.branches, self.theirs.desk.head), ({"main": self.two}, ("commit", self.root)))
        self.assertEqual(sorted(self.model.working), ["mine"])

    def test_repeated_offers(self):
        letter = ("offer", "new", self.two)
        self.assertEqual(self.receive(letter), self.wants_for(self.two))
        self.assertEqual(self.receive(letter), self.wants_for(self.two))
        self.assertEqual(self.theirs.peer.open_goals(), 1)
        found = self.receive(("chunk", self.two, self.text(self.two)))
        self.assertEqual(self.receive(letter), found)
        self.receive(("offer", "new", self.one))
        self.receive(("offer", "other", self.two))
        self.assertEqual(self.theirs.peer.open_goals(), 3)
        # The offer of `one` is refused: by then the branch is at `two`, which was offered first.
        answers = self.feed(self.again())
        self.assertEqual(sorted(answers), [("refused", "new", self.one), ("taken", "new", self.two), ("taken", "other", self.two)])

    def test_an_offer_of_what_is_held(self):
        self.assertEqual(self.receive(("offer", "new", self.root)), [("taken", "new", self.root)])
        self.assertEqual(self.receive(("offer", "new", self.root)), [("taken", "new", self.root)])
        self.assertEqual(self.receive(("offer", "main", self.root)), [("taken", "main", self.root)])
        self.assertEqual(self.theirs.peer.open_goals(), 0)

    def test_answers_come_before_other_letters(self):
        self.receive(("offer", "x", self.one))
        self.fill(self.theirs, self.one)
        found = self.receive(("offer", "y", self.two))
        self.assertEqual(found, [("taken", "x", self.one)] + self.wants_for(self.two))
        self.receive(("offer", "z", self.two))
        self.fill(self.theirs, self.two)
        found = self.receive(("want", self.one))
        self.assertEqual(found, [("taken", "y", self.two), ("taken", "z", self.two), ("chunk", self.one, self.text(self.one))])


class ExchangeTest(PeersCase):
    def test_the_example(self):
        peer = Peer(Desk(Chunks(Book())))
        self.assertEqual(peer.receive(("want", 999)), [])

    def test_from_one_to_the_other_and_back(self):
        self.deliver(self.ours, self.theirs, [self.ours.peer.offer("main")])
        self.assertEqual(self.ours.peer.answers, [("taken", "main", self.two)])
        self.use(self.theirs)
        three = self.save_as("three", (5, "theirs", 5))
        self.use(self.ours)
        four = self.save_as("four", (6, "ours", 6))
        self.deliver(self.theirs, self.ours, [self.theirs.peer.offer("main")])
        self.assertEqual(self.theirs.peer.answers, [("refused", "main", three)])
        self.deliver(self.ours, self.theirs, [("ask",)])
        self.use(self.ours)
        self.assertEqual(self.ours.desk.fars, {"main": three})
        self.assertEqual(self.do("merge", "/main"), "joined")
        both = self.do("commit", "both")
        self.deliver(self.ours, self.theirs, [self.ours.peer.offer("main"), self.ours.peer.offer("side")])
        self.assertEqual(self.ours.peer.answers[1:], [("taken", "side", self.one), ("taken", "main", both)])
        self.use(self.theirs)
        self.assertEqual(self.rows("wares")[5:7], [(5, "theirs", 5), (6, "ours", 6)])
        self.assertGreater(both, four)
        self.assertEqual(self.theirs.desk.chunks.addresses(), closure(self.ours.desk.chunks, [both]))

    def test_an_open_goal_for_far_branches_is_no_offer(self):
        self.use(self.theirs)
        self.receive(("refs", (("main", self.two),)))
        self.receive(("offer", "main", self.two))
        self.assertEqual(self.theirs.peer.open_goals(), 2)
        self.assertEqual(self.feed(self.again()), [("taken", "main", self.two)])
        self.assertEqual(self.theirs.desk.fars, {"main": self.two})

    def test_random_exchanges(self):
        told = collections.Counter()
        for seed in range(25):
            self.setUp()
            rng = random.Random(seed)
            waiting = []
            for _ in range(220):
                self.random_step(rng, waiting, told)
            for _ in range(300):
                self.finish_step(rng, waiting, told)
            for pair in (self.ours, self.theirs):
                self.use(pair)
                self.assert_closed()
        for word in ("ask", "refs", "offer", "taken", "refused", "want", "chunk", "lost", "repeated", "changed", "again", "swept"):
            self.assertGreater(told[word], 5, told)

    def random_step(self, rng, waiting, told):
        """One call of a desk, or one letter that is sent, lost, repeated, changed or received."""
        pair = rng.choice([self.ours, self.theirs])
        other = self.theirs if pair is self.ours else self.ours
        self.use(pair)
        chance = rng.random()
        if chance < 0.25:
            name, args = random_call(rng, pair.model)
            self.do(name, *args)
        elif chance < 0.33:
            letters = [("ask",)] + [pair.peer.offer(name) for name in pair.desk.branches]
            waiting.append((other, rng.choice(letters)))
        elif chance < 0.36:
            waiting.extend((other, letter) for letter in self.again())
            told["again"] += 1
        elif chance < 0.38:
            sweep(pair.desk)
            pair.model.sweep()
            self.assert_same()
            told["swept"] += 1
        elif waiting:
            self.pass_letter(rng, waiting, told, 0.1)

    def pass_letter(self, rng, waiting, told, fault):
        place = rng.choice([0, rng.randrange(len(waiting))])
        pair, letter = waiting[place] if rng.random() < fault else waiting.pop(place)
        told["repeated"] += letter in [one for _, one in waiting]
        if rng.random() < fault / 2:
            told["lost"] += 1
            return
        if letter[0] == "chunk" and rng.random() < fault:
            told["changed"] += 1
            letter = ("chunk", letter[1], rng.choice(["", "n", letter[2][:-1], "(t4:rows())", self.world.scratch.get(1)]))
        told[letter[0]] += 1
        self.use(pair)
        other = self.theirs if pair is self.ours else self.ours
        waiting.extend((other, reply) for reply in self.receive(letter))

    def finish_step(self, rng, waiting, told):
        """Letters alone, without faults, so that goals are reached."""
        if waiting:
            self.pass_letter(rng, waiting, told, 0)
            return
        for pair, other in ((self.ours, self.theirs), (self.theirs, self.ours)):
            self.use(pair)
            waiting.extend((other, letter) for letter in self.again())


class LongTest(unittest.TestCase):
    def test_a_long_history(self):
        book = Book()
        ours, theirs = Desk(Chunks(book)), Desk(Chunks(book))
        last = long_history(ours.chunks, 1500)
        ours.branches["main"] = last
        one, two = Peer(ours), Peer(theirs)
        waiting = collections.deque(two.receive(one.offer("main")))
        answers = []
        while waiting:
            letter = waiting.popleft()
            if letter[0] != "want":
                answers.append(letter)
                continue
            for reply in one.receive(letter):
                waiting.extend(two.receive(reply))
        self.assertEqual(answers, [("taken", "main", last)])
        self.assertEqual(theirs.branches, {"main": last})
        self.assertEqual(theirs.chunks.addresses(), closure(ours.chunks, [last]))


if __name__ == "__main__":
    unittest.main()
