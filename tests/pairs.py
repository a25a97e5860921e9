"""What the tests of several desks share: desks with peers, each beside one of the model."""

from tests.desks import DeskCase
from tests.model import ModelDesk, ModelPeer
from versiontables.chunks import Chunks
from versiontables.desk import Desk
from versiontables.peers import Peer


class Pair:
    """A desk of the program with its peer, and what the model has in their places."""

    def __init__(self, desk, model):
        self.desk, self.model = desk, model
        self.peer = Peer(desk)
        self.told = ModelPeer(model, set(), desk.chunks.book)


class PairsCase(DeskCase):
    def new_pair(self):
        pair = Pair(Desk(Chunks(self.book)), ModelDesk(self.world))
        self.world.link()
        return pair

    def use(self, pair):
        """Calls go to this pair from now on."""
        self.pair, self.desk, self.model = pair, pair.desk, pair.model

    def letters(self, found, told):
        """Letters of the program must be those of the model."""
        for place, letter in enumerate(found):
            self.assertIs(type(letter), tuple)
            if letter[0] == "chunk":
                self.assertEqual(self.book.find(letter[2]), letter[1])
                told[place] = (*told[place][:2], letter[2])
        self.assertEqual(found, told)

    def ask_both(self, question):
        """Ask the peer of the program and that of the model; return the letters of the first."""
        pair = self.pair
        pair.told.store = set(pair.desk.chunks.addresses())
        found, told = question(pair.peer), question(pair.told)
        self.letters(found, told)
        self.assertEqual(pair.desk.chunks.addresses(), sorted(pair.told.store))
        self.assertEqual(pair.peer.open_goals(), len(pair.told.goals()))
        self.assertEqual(pair.peer.answers, pair.told.answers)
        self.assertIs(pair.peer.desk, pair.desk)
        self.assert_same()
        return found

    def receive(self, letter):
        return self.ask_both(lambda peer: peer.receive(letter))

    def again(self):
        return self.ask_both(lambda peer: peer.again())

    def deliver(self, one, two, letters):
        """Deliver letters from one pair to the other, and all letters that follow, without any loss."""
        waiting = [(two, letter) for letter in letters]
        while waiting:
            pair, letter = waiting.pop(0)
            self.use(pair)
            waiting.extend((one if pair is two else two, reply) for reply in self.receive(letter))
