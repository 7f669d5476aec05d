"""Branches of a tree: deeds are done on them and undone, and they take one another."""

from treeshed.answers import kind_of_answer
from treeshed.errors import (
    BadDeed, BadName, BrokenRule, InTheWay, NoBranch, NoDeed, NoNumber, TooMany, UsedName)
from treeshed.histories import MOST_DEEDS, first_in_the_way
from treeshed.judging import kept_by
from treeshed.merging import Clash, merged
from treeshed.plays import call
from treeshed.storing import Store
from treeshed.words import is_integer, is_name


class Branch:
    """One branch: its head and its beginning, and the deeds that lead from one to the other."""

    def __init__(self, serial, head):
        # Names are used again, so what a branch has made is known by this number.
        self.serial = serial
        self.head = head
        self.beginning = head
        # Tuples (name, word, value, kind of the answer).
        self.told = []


class Branches:
    """Branches of a tree of a rule; they change with fork, do, take, undo and drop."""

    def __init__(self, tree, deeds, rule, plan, book):
        check_deeds(deeds, rule)
        if not rule.keeps(tree):
            raise BrokenRule()
        self.tree = tree
        self.rule = rule
        self.plan = plan
        self.book = book
        self._deeds = {name: deeds[name] for name in deeds}
        self._store = Store(tree)
        self._branches = {"main": Branch(0, 0)}
        self._next_serial = 1
        # For each version the branch that made it; for each two branches, by their names in order, their base.
        self._maker = {0: 0}
        self._bases = {}

    @property
    def deeds(self):
        """A new dict of the deeds."""
        return {name: self._deeds[name] for name in self._deeds}

    def all_names(self):
        """The tuple of the names of the branches, in the order in which they came."""
        return tuple(self._branches)

    def head_of(self, name):
        """The version that is the head of a branch."""
        return self._branch(name).head

    def base_of(self, one, other):
        """The version that is the base of two branches."""
        self._check_two(one, other)
        return self._bases[pair_key(one, other)]

    def tree_at(self, name):
        """The tree of the head of a branch."""
        return self._store.trees[self._branch(name).head]

    def history_of(self, name):
        """The tuple of the deeds (name, word, value) of a branch's list."""
        return tuple([told[:3] for told in self._branch(name).told])

    def shared_places(self, one, other):
        """How many places the heads of two branches have in common."""
        head = self._branch(one).head
        return self._store.in_common(head, self._branch(other).head)

    def stored(self):
        """How many places there are in all versions that are not forgotten, each counted once."""
        return len(self._store.holders)

    def kept_versions(self):
        """The tuple of the numbers of the versions that are not forgotten, ascending."""
        return self._store.numbers()

    def version_tree(self, number):
        """The tree of a version."""
        self._store.check(number)
        return self._store.trees[number]

    def new_places(self, number):
        """How many places were new in a version."""
        self._store.check(number)
        return self._store.fresh[number]

    def fork(self, name, source):
        """Makes a branch that begins at the head of another one; tells its head."""
        branch = self._branch(source)
        if not is_name(name):
            raise BadName(name)
        if name in self._branches:
            raise UsedName(name)
        for third in self._branches:
            base = branch.head if third == source else self._bases[pair_key(source, third)]
            self._bases[pair_key(name, third)] = base
        self._branches[name] = Branch(self._next_serial, branch.head)
        self._next_serial += 1
        return branch.head

    def do(self, name, deed, word, value):
        """Does a deed on the head of a branch; tells the pair of the new head and the answer."""
        branch = self._branch(name)
        if not isinstance(deed, str) or deed not in self._deeds:
            raise NoDeed(deed)
        answer, behind = call(self._store.trees[branch.head], self._deeds[deed], word, value)
        if len(branch.told) >= MOST_DEEDS:
            raise TooMany("deeds", len(branch.told) + 1, MOST_DEEDS)
        self._store.check_room(1)
        branch.head = self._made(branch, self._store.add_called(branch.head, behind))
        branch.told.append((deed, word, value, kind_of_answer(answer)))
        return branch.head, answer

    def take(self, name, other):
        """Merges the head of another branch into that of this one; True, or the Clash."""
        self._check_two(name, other)
        branch, taken = self._branches[name], self._branches[other]
        trees = self._store.trees
        base = self._bases[pair_key(name, other)]
        made = merged(self.plan, trees[base], trees[branch.head], trees[taken.head])
        if isinstance(made, Clash):
            return made
        if not self.rule.keeps(made.tree):
            raise BrokenRule()
        self._store.check_room(1)
        branch.head = self._made(branch, self._store.add_merged(made, branch.head, taken.head))
        branch.beginning = branch.head
        branch.told = []
        self._bases[pair_key(name, other)] = taken.head
        return True

    def undo(self, name, number):
        """Undoes a deed of a branch's list, and does the others anew; tells the head."""
        branch = self._branch(name)
        if not is_integer(number) or not 0 <= number < len(branch.told):
            raise NoNumber(number)
        later = first_in_the_way(self.book, branch.told, number)
        if later is not None:
            raise InTheWay(later)
        left = branch.told[:number] + branch.told[number + 1:]
        tree = self._store.trees[branch.beginning]
        done = []
        for deed, word, value, _ in left:
            answer, tree = call(tree, self._deeds[deed], word, value)
            done.append((tree, (deed, word, value, kind_of_answer(answer))))
        self._store.check_room(len(done))
        branch.head = branch.beginning
        for behind, _ in done:
            branch.head = self._made(branch, self._store.add_called(branch.head, behind))
        branch.told = [told for _, told in done]
        return branch.head

    def drop(self, name):
        """Drops a branch and forgets what only dropped ones have asked for; tells how many places less are stored."""
        self._branch(name)
        del self._branches[name]
        self._bases = {key: self._bases[key] for key in self._bases if name not in key}
        makers = [branch.serial for branch in list(self._branches.values())]
        asked_for = list(self._bases.values())
        for branch in list(self._branches.values()):
            asked_for.extend([branch.head, branch.beginning])
        less = 0
        for number in self._store.numbers():
            if self._maker[number] not in makers and number not in asked_for:
                less += self._store.forget(number)
        return less

    def _branch(self, name):
        """The branch of any value as a name."""
        if not isinstance(name, str) or name not in self._branches:
            raise NoBranch(name)
        return self._branches[name]

    def _check_two(self, one, other):
        """Raises NoBranch unless these any values are names of two branches."""
        self._branch(one)
        self._branch(other)
        if one == other:
            raise NoBranch(other)

    def _made(self, branch, number):
        """Notes that a branch has made a version; the version."""
        self._maker[number] = branch.serial
        return number


def check_deeds(deeds, rule):
    """Raises an error for the first key that is no name, or the first deed that does not keep the rule."""
    for name in deeds:
        if not is_name(name):
            raise BadName(name)
    for name in deeds:
        if not kept_by(deeds[name], rule):
            raise BadDeed(name)


def pair_key(one, other):
    """What stands for two branches among the keys of a dict, whichever is named first."""
    return (one, other) if one < other else (other, one)
