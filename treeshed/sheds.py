"""Sheds: branches with holds and a log."""

from treeshed.branches import Branches
from treeshed.errors import BadLog, BadName, NoLabel, NoPlace, ShedError, UsedLabel
from treeshed.merging import Clash
from treeshed.words import in_order, is_name

# What rows of a log begin with, and how many fields follow.
ROWS = {"fork": 2, "do": 4, "take": 2, "undo": 2, "drop": 1, "hold": 3, "let_go": 1}


class Shed(Branches):
    """Branches that keep a log of what was done, and on which places are held."""

    def __init__(self, tree, deeds, rule, plan, book):
        Branches.__init__(self, tree, deeds, rule, plan, book)
        self._log = []
        # From labels to triples (branch, place, lost).
        self._holds = {}
        # For each branch a dict from words to the log's row that last changed them.
        self._changes = {"main": {}}

    def hold(self, label, name, place):
        """Holds a place of a branch by a label."""
        if not is_name(label):
            raise BadName(label)
        if label in self._holds:
            raise UsedLabel(label)
        if not self.tree_at(name).has(place):
            raise NoPlace(place)
        self._holds[label] = (name, place, None)
        self._log.append(("hold", label, name, place))

    def let_go(self, label):
        """Lets a hold go."""
        if not isinstance(label, str) or label not in self._holds:
            raise NoLabel(label)
        del self._holds[label]
        self._log.append(("let_go", label))

    def holds(self):
        """A dict from the labels, ascending, to triples (name, place, lost)."""
        return {label: self._holds[label] for label in sorted(self._holds)}

    def log(self):
        """The tuple of what was done, in order."""
        return tuple(self._log)

    def changes(self, name):
        """A dict from the words that a row has changed on a branch, in order, to the last such row."""
        letters = self.tree_at(name).letters
        changed = self._changes[name]
        return {word: changed[word] for word in in_order(list(changed), letters)}

    def fork(self, name, source):
        """Forks a branch, as Branches does."""
        head = super().fork(name, source)
        changed = self._changes[source]
        self._changes[name] = {word: changed[word] for word in changed}
        self._log.append(("fork", name, source))
        return head

    def do(self, name, deed, word, value):
        """Does a deed, as Branches does."""
        ahead = self.tree_at(name)
        told = super().do(name, deed, word, value)
        self._note(name, ahead, ("do", name, deed, word, value))
        return told

    def take(self, name, other):
        """Takes a branch, as Branches does."""
        ahead = self.tree_at(name)
        told = super().take(name, other)
        if not isinstance(told, Clash):
            self._note(name, ahead, ("take", name, other))
        return told

    def undo(self, name, number):
        """Undoes a deed, as Branches does."""
        ahead = self.tree_at(name)
        head = super().undo(name, number)
        self._note(name, ahead, ("undo", name, number))
        return head

    def drop(self, name):
        """Drops a branch, as Branches does, with its holds."""
        less = super().drop(name)
        del self._changes[name]
        self._holds = {label: self._holds[label] for label in self._holds if self._holds[label][0] != name}
        self._log.append(("drop", name))
        return less

    def _note(self, name, ahead, row):
        """Writes a row into the log that has changed the head of a branch, and what it did to words and holds."""
        index = len(self._log)
        self._log.append(row)
        behind = self.tree_at(name)
        for tree in (ahead, behind):
            for word, _ in tree.word_items():
                if ahead.value_of(word) != behind.value_of(word):
                    self._changes[name][word] = index
        for label in list(self._holds):
            branch, place, lost = self._holds[label]
            if branch == name and lost is None and not behind.has(place):
                self._holds[label] = (branch, place, index)

    @classmethod
    def replayed(cls, tree, deeds, rule, plan, book, log):
        """The shed behind all rows of a log."""
        shed = cls(tree, deeds, rule, plan, book)
        for index, row in enumerate(log):
            if not is_log_row(row) or not is_done(shed, row):
                raise BadLog(index)
        return shed


def is_log_row(value):
    """Whether any value is a tuple with the name of what was done, and as many fields as follow it."""
    if not isinstance(value, tuple) or len(value) == 0 or not isinstance(value[0], str):
        return False
    return value[0] in ROWS and len(value) == 1 + ROWS[value[0]]


def is_done(shed, row):
    """Does what a row tells; whether it could be done."""
    try:
        told = do_row(shed, row)
    except ShedError:
        return False
    return not isinstance(told, Clash)


def do_row(shed, row):
    """Does what a row tells; what the method returns."""
    head, rest = row[0], row[1:]
    if head == "fork":
        return shed.fork(rest[0], rest[1])
    if head == "do":
        return shed.do(rest[0], rest[1], rest[2], rest[3])
    if head == "take":
        return shed.take(rest[0], rest[1])
    if head == "undo":
        return shed.undo(rest[0], rest[1])
    if head == "drop":
        return shed.drop(rest[0])
    if head == "hold":
        return shed.hold(rest[0], rest[1], rest[2])
    return shed.let_go(rest[0])
