"""Branches told once more, straight from [33] to [35], over a plain record of versions."""

from tests.merges import Mix, kinds_of
from tests.record import Record
from treeshed.answers import kind_of_answer
from treeshed.questions import relation_of


class Refused(Exception):
    """What the document refuses, told by the name of its error and its field."""


class Model:
    """Branches, as dicts."""

    def __init__(self, tree, deeds, rule, plan, book):
        self.record, self.letters = Record(tree), tree.letters
        self.given, self.rule, self.plan, self.book = deeds, rule, plan, book
        self.branches = {"main": {"head": 0, "beginning": 0, "list": [], "serial": 0}}
        self.bases, self.makers, self.serials = {}, {0: 0}, 1

    def made(self, name, number):
        """Notes which branch has made a version."""
        self.makers[number] = self.branches[name]["serial"]
        self.branches[name]["head"] = number
        return number

    def fork(self, name, source):
        head = self.branches[source]["head"]
        for third in self.branches:
            base = head if third == source else self.bases[frozenset([source, third])]
            self.bases[frozenset([name, third])] = base
        self.branches[name] = {"head": head, "beginning": head, "list": [], "serial": self.serials}
        self.serials += 1
        return head

    def do(self, name, deed, word, value):
        branch = self.branches[name]
        number, answer = self.record.call(branch["head"], self.given[deed], word, value)
        branch["list"].append((deed, word, value, kind_of_answer(answer)))
        return self.made(name, number), answer

    def take(self, name, other):
        both, heads = frozenset([name, other]), [self.branches[told]["head"] for told in (name, other)]
        parts = [self.record.roots[number].part() for number in [self.bases[both]] + heads]
        mix = Mix(self.plan, self.letters, *parts)
        if mix.clashes:
            return mix.clashes[0]
        if not all(kind in (self.rule.root if root else self.rule.others) for root, kind in kinds_of(mix.part, "")):
            raise Refused("BrokenRule", None)
        number = self.made(name, self.record.merge(self.plan, self.letters, self.bases[both], *heads))
        self.branches[name].update(beginning=number, list=[])
        self.bases[both] = heads[1]
        return True

    def undo(self, name, number):
        branch = self.branches[name]
        first = branch["list"][number]
        for later in range(number + 1, len(branch["list"])):
            second = branch["list"][later]
            key = (first[0], first[3], second[0], second[3], relation_of((first[1], second[1])), first[2] == second[2])
            if self.book.told_rows().get(key) is not True:
                raise Refused("InTheWay", later)
        others = branch["list"][:number] + branch["list"][number + 1:]
        branch["head"], branch["list"] = branch["beginning"], []
        for deed, word, value, _ in others:
            self.do(name, deed, word, value)
        return branch["head"]

    def drop(self, name):
        del self.branches[name]
        self.bases = {both: base for both, base in self.bases.items() if name not in both}
        asked = set(self.bases.values()) | {
            branch[told] for branch in self.branches.values() for told in ("head", "beginning")}
        there = {branch["serial"] for branch in self.branches.values()}
        before = self.record.stored()
        for number in list(self.record.roots):
            if self.makers[number] not in there and number not in asked:
                self.record.forget(number)
        return before - self.record.stored()
