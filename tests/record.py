"""A plain record of versions: each place is an object of its own, shared as [30] tells it."""

from tests import oracle
from tests.merges import Mix, part_of


class Node:
    """One place of a version: its value, its flag, and its children by their letters."""

    def __init__(self, value, flag, children):
        self.value, self.flag, self.children = value, flag, children

    def part(self):
        """The part, as merges have it."""
        return (self.value, self.flag, {letter: child.part() for letter, child in self.children.items()})

    def nodes(self):
        """All places of the part."""
        return [self] + [node for child in self.children.values() for node in child.nodes()]

    def at(self, place):
        """The place of the part that this word leads to."""
        return self if place == "" else self.children[place[0]].at(place[1:])


def built(part):
    """New places for a part."""
    value, flag, children = part
    return Node(value, flag, {letter: built(child) for letter, child in children.items()})


def called(node, part):
    """The places of a part that a call has left, over those that were there: what is the same stays."""
    if node is None:
        return built(part)
    if node.part() == part:
        return node
    return Node(part[0], part[1], {letter: called(node.children.get(letter), child)
                                   for letter, child in part[2].items()})


def woven(part, taken, sides, place=""):
    """The places of a merged part: what is taken is a side's, all else is new."""
    if place in taken:
        return sides[taken[place]].at(place)
    return Node(part[0], part[1], {letter: woven(child, taken, sides, place + letter)
                                   for letter, child in part[2].items()})


class Record:
    """The versions, as the nodes of their roots."""

    def __init__(self, tree):
        self.roots = {0: built(part_of(tree))}
        self.fresh = {0: tree.size}
        self.known = {id(node): node for node in self.roots[0].nodes()}
        self.next = 1

    def add(self, root):
        """Adds a version; its number."""
        number, self.next = self.next, self.next + 1
        self.roots[number] = root
        new = [node for node in root.nodes() if id(node) not in self.known]
        # All nodes are kept, so that no two ever have the same id.
        self.known.update({id(node): node for node in new})
        self.fresh[number] = len(new)
        return number

    def call(self, number, routine, word, value):
        """Does a call; the pair of the new version's number and the answer."""
        rows = {}

        def spread(node, place):
            rows[place] = (node.value, node.flag)
            for letter, child in node.children.items():
                spread(child, place + letter)

        spread(self.roots[number], "")
        answer, behind = oracle.called(rows, routine, word, value)
        return self.add(called(self.roots[number], nested(behind, ""))), answer

    def merge(self, plan, letters, base, one, other):
        """Merges; the new version's number, or the place that clashes."""
        parts = [self.roots[number].part() for number in (base, one, other)]
        mix = Mix(plan, letters, *parts)
        if mix.clashes:
            return mix.clashes[0]
        sides = {"one": self.roots[one], "other": self.roots[other]}
        return self.add(woven(mix.part, dict(mix.taken), sides))

    def ids(self, number):
        """The places of a version."""
        return {id(node) for node in self.roots[number].nodes()}

    def in_common(self, one, other):
        return len(self.ids(one) & self.ids(other))

    def stored(self):
        return len(set().union(*[self.ids(number) for number in self.roots])) if self.roots else 0

    def forget(self, number):
        """Forgets a version; how many places less are stored."""
        before = self.stored()
        del self.roots[number]
        return before - self.stored()


def nested(places, top):
    """The part at a top of a dict from places to pairs (value, flag)."""
    below = [place for place in places if len(place) == len(top) + 1 and place.startswith(top)]
    return places[top] + ({place[-1]: nested(places, place) for place in below},)
