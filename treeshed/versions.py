"""Versions of a tree that share places."""

from treeshed.freshness import greatest_call
from treeshed.merging import Clash, merged
from treeshed.plays import call
from treeshed.storing import Store


class Versions:
    """Versions of a tree; calls and merges make more of them, some may be forgotten."""

    def __init__(self, tree):
        self.tree = tree
        self._store = Store(tree)

    def call(self, number, routine, word, value):
        """Does a call on a version; the pair of the new version's number and the answer."""
        answer, behind = call(self.tree_at(number), routine, word, value)
        self._store.check_room(1)
        return self._store.add_called(number, behind), answer

    def merge(self, plan, base, one, other):
        """Merges two versions over a third one; the new version's number, or the Clash."""
        base_tree, one_tree, other_tree = [self.tree_at(number) for number in (base, one, other)]
        made = merged(plan, base_tree, one_tree, other_tree)
        if isinstance(made, Clash):
            return made
        self._store.check_room(1)
        return self._store.add_merged(made, one, other)

    def tree_at(self, number):
        """The tree of a version."""
        self._store.check(number)
        return self._store.trees[number]

    def new_places(self, number):
        """How many places were new in a version."""
        self._store.check(number)
        return self._store.fresh[number]

    def shared_places(self, one, other):
        """How many places two versions have in common."""
        self._store.check(one)
        self._store.check(other)
        return self._store.in_common(one, other)

    def stored(self):
        """How many places there are in all versions that are not forgotten, each counted once."""
        return len(self._store.holders)

    def kept_versions(self):
        """The tuple of the numbers of the versions that are not forgotten, ascending."""
        return self._store.numbers()

    def forget(self, number):
        """Forgets a version; how many of its places are in no other one."""
        self._store.check(number)
        return self._store.forget(number)


def worst_new(routine, rule, letters):
    """The greatest number of new places of a call with a word of so many letters, on any tree of the rule."""
    found = greatest_call(routine, rule, letters)
    return 0 if found is None else found[0]


def most_new(routine, rule, letters):
    """A tree, a word of so many letters and a value with that many new places; None if the rule has no tree."""
    found = greatest_call(routine, rule, letters)
    return None if found is None else found[1:]
