"""Versions of a tree and the places that they share: each place is known by its word and the version it is new in."""

from treeshed.errors import NoVersion, TooMany
from treeshed.plays import places_of_changes
from treeshed.words import is_integer

MOST_VERSIONS = 500


class Store:
    """Versions, numbered from 0 on, of which some may be forgotten."""

    def __init__(self, tree):
        self.next_number = 0
        self.trees = {}
        # For each version: a dict from its places to the numbers of the versions in which they are new.
        self.origins = {}
        self.fresh = {}
        # For each place, known by its word and that number, in how many versions it is.
        self.holders = {}
        self.add(tree, {})

    def add(self, tree, shared):
        """Adds a version, whose places are new but for those that are shared; its number."""
        number = self.next_number
        origins = {row[0]: shared.get(row[0], number) for row in tree.rows}
        for place in origins:
            key = (place, origins[place])
            self.holders[key] = self.holders.get(key, 0) + 1
        self.trees[number] = tree
        self.origins[number] = origins
        self.fresh[number] = len(origins) - len(shared)
        self.next_number = number + 1
        return number

    def add_called(self, number, tree):
        """Adds the version that a call on a version has left; its number."""
        origins = self.origins[number]
        # What is changed, and still there, lies on the way of the call's word.
        changed = places_of_changes([self.trees[number], tree])
        return self.add(tree, {row[0]: origins[row[0]] for row in tree.rows if row[0] not in changed})

    def add_merged(self, made, one, other):
        """Adds the version that a merge of two versions has made; its number."""
        origins = {"one": self.origins[one], "other": self.origins[other]}
        side_of = dict(made.taken)
        shared = {}
        # In order each place comes behind its parent, so what is taken is told from the top of a part down.
        for row in made.tree.rows:
            place = row[0]
            if place[:-1] in side_of:
                side_of[place] = side_of[place[:-1]]
            if place in side_of:
                shared[place] = origins[side_of[place]][place]
        return self.add(made.tree, shared)

    def check(self, number):
        """Raises NoVersion for any value that is no number of a version that is not forgotten."""
        if not is_integer(number) or number not in self.trees:
            raise NoVersion(number)

    def check_room(self, more):
        """Raises TooMany if there would be too many versions with so many more."""
        many = len(self.trees) + more
        if many > MOST_VERSIONS:
            raise TooMany("versions", many, MOST_VERSIONS)

    def numbers(self):
        """The tuple of the numbers of the versions that are not forgotten, ascending."""
        return tuple(sorted(self.trees))

    def in_common(self, one, other):
        """How many places two versions have in common."""
        origins = self.origins[other]
        first = self.origins[one]
        return len([place for place in first if place in origins and origins[place] == first[place]])

    def forget(self, number):
        """Forgets a version; how many of its places are in no other one."""
        before = len(self.holders)
        origins = self.origins[number]
        for place in origins:
            key = (place, origins[place])
            self.holders[key] -= 1
            if self.holders[key] == 0:
                del self.holders[key]
        del self.trees[number], self.origins[number], self.fresh[number]
        return before - len(self.holders)
