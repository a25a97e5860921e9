"""The exchange of letters between two desks."""

from versiontables.commits import commit_state
from versiontables.errors import UnknownName
from versiontables.fetching import Fetch
from versiontables.graph import is_ancestor


class Goal:
    """What is to be done when a fetch can be finished: the letter that asked for it tells."""

    def __init__(self, letter, fetch):
        self.letter = letter
        self.fetch = fetch


class Peer:
    """Stands for a desk in an exchange of letters."""

    def __init__(self, desk):
        self.desk = desk
        self.answers = []
        # The goal for far branches, if there is one, stands in front of all others.
        self._goals = []

    def receive(self, letter):
        """Receive a letter; return the list of the letters that are sent back."""
        word = letter[0]
        kept = []
        if word == "refs":
            self._open_far_goal(letter)
        elif word == "offer":
            self._open_offer(letter)
        elif word == "chunk":
            kept = self._hand_out(letter)
        elif word in ("taken", "refused"):
            self.answers.append(letter)
        answers = self._reach_goals()
        return answers + self._replies(letter, kept)

    def offer(self, name):
        """Return the letter that offers the branch."""
        if name not in self.desk.branches:
            raise UnknownName(f"there is no branch {name}")
        return "offer", name, self.desk.branches[name]

    def again(self):
        """Reach open goals; return the answers to offers, and letters for all that is wanted."""
        answers = self._reach_goals()
        wanted = []
        for goal in self._goals:
            wanted.extend(goal.fetch.wants())
        return answers + _letters_for(wanted)

    def open_goals(self):
        """Return the number of open goals."""
        return len(self._goals)

    def _open_far_goal(self, letter):
        goal = Goal(letter, Fetch(self.desk.chunks, [commit for _, commit in letter[1]]))
        self._goals = [goal] + [other for other in self._goals if other.letter[0] == "offer"]

    def _open_offer(self, letter):
        if self._goal_of(letter) is None:
            self._goals.append(Goal(letter, Fetch(self.desk.chunks, [letter[2]])))

    def _goal_of(self, letter):
        """Return the open goal that such a letter opened, or None."""
        for goal in self._goals:
            if goal.letter == letter:
                return goal
        return None

    def _hand_out(self, letter):
        """Hand a chunk to all goals; return the list of those that kept it, each with what it wanted before."""
        _, address, text = letter
        kept = []
        for goal in self._goals:
            before = goal.fetch.wants()
            if goal.fetch.receive(address, text):
                kept.append((goal, before))
        return kept

    def _reach_goals(self):
        """Reach the first goal that can be reached, again and again; return the answers to offers."""
        answers = []
        goal = self._finished_goal()
        while goal is not None:
            self._goals.remove(goal)
            if goal.letter[0] == "refs":
                desk = self.desk
                desk.fars = dict(goal.letter[1])
            else:
                answers.append(self._answer_offer(goal.letter))
            goal = self._finished_goal()
        return answers

    def _finished_goal(self):
        """Finish the fetch of the first goal that can be reached; return this goal, or None."""
        for goal in self._goals:
            if goal.fetch.finish():
                return goal
        return None

    def _answer_offer(self, letter):
        """Take or refuse an offer whose commit the store holds; return the answer."""
        _, name, commit = letter
        if not self._may_take(name, commit):
            return "refused", name, commit
        desk = self.desk
        if desk.branches.get(name) != commit:
            desk.branches[name] = commit
            if desk.head == ("branch", name):
                desk.working = commit_state(desk.chunks, commit)
        return "taken", name, commit

    def _may_take(self, name, commit):
        """Return True if the branch may be at the commit from now on, otherwise False."""
        desk = self.desk
        if name in desk.tags:
            return False
        if name not in desk.branches or desk.branches[name] == commit:
            return True
        if not is_ancestor(desk.chunks, desk.branches[name], commit):
            return False
        return desk.head != ("branch", name) or desk.is_clean()

    def _replies(self, letter, kept):
        """Return the letters that answer a letter itself."""
        word = letter[0]
        if word == "ask":
            branches = self.desk.branches
            return [("refs", tuple([(name, branches[name]) for name in sorted(branches)]))]
        if word == "want":
            address = letter[1]
            chunks = self.desk.chunks
            return [("chunk", address, chunks.get(address))] if chunks.has(address) else []
        if word == "chunk":
            return self._new_wants(kept)
        # Other letters than `refs` and `offer` open no goal, and a goal that was reached wants nothing.
        goal = self._goal_of(letter)
        return [] if goal is None else _letters_for(goal.fetch.wants())

    def _new_wants(self, kept):
        """Return letters for what goals want now that they did not want before."""
        wanted = []
        for goal, before in kept:
            if goal in self._goals:
                known = {address: True for address in before}
                wanted.extend([address for address in goal.fetch.wants() if address not in known])
        return _letters_for(wanted)


def _letters_for(addresses):
    """Return a letter `want` for each address, in ascending order, each address once."""
    return [("want", address) for address in sorted(set(addresses))]
