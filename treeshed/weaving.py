"""Merging the parts that three trees have at a place."""

from treeshed.errors import OtherLetters
from treeshed.mixing import is_left_out, merged_cell, next_step, told_flag
from treeshed.plays import places_of_changes
from treeshed.trees import Tree
from treeshed.words import in_order


def check_letters(base, one, other):
    """Raises OtherLetters unless the three have the same letters, in the same order."""
    if not base.letters == one.letters == other.letters:
        raise OtherLetters()


class Weave:
    """The merge of the parts at a place, by themselves."""

    def __init__(self, plan, base, one, other, top=""):
        self.plan = plan
        self.letters = base.letters
        self.trees = (base, one, other)
        self.one_changed = places_of_changes([base, one])
        self.other_changed = places_of_changes([base, other])
        self.clashes = []
        self.taken = []
        # The places at which the merge goes on, each behind its parent, with their cells.
        self.going = []
        # The cells of the places of the result, and how many children they have; both {} if it clashes.
        self.cells = {}
        self.children = {}
        self.look_below(top)
        if len(self.clashes) == 0:
            self.put_together()

    def look_below(self, top):
        """Finds where the merge goes on, where it clashes, and what it takes as it is."""
        waiting = [top]
        while waiting:
            place = waiting.pop()
            waiting.extend(self.look_at(place))

    def look_at(self, place):
        """Looks at the three parts of a place; a list of the places below to look at next."""
        there = [tree.has(place) for tree in self.trees]
        step = next_step(self.plan, there, place not in self.one_changed, place not in self.other_changed)
        if step == "clash":
            self.clashes.append(place)
        elif step in ("one", "other"):
            if self.named_side(step).has(place):
                self.taken.append((place, step))
        elif step == "on":
            cell = merged_cell(self.plan, [cell_at(tree, place) for tree in self.trees])
            if cell is None:
                self.clashes.append(place)
            self.going.append((place, cell))
            letters = [tree.below(place) for tree in self.trees if tree.has(place)]
            return [place + letter for letter in self.letters if any([letter in below for below in letters])]
        return []

    def named_side(self, name):
        """The tree of the side of this name."""
        return self.trees[1] if name == "one" else self.trees[2]

    def put_together(self):
        """Makes the result, from the ends up."""
        below = {}
        for place, name in self.taken:
            self.take_part(place, self.named_side(name))
            below[place[:-1]] = below.get(place[:-1], 0) + 1
        flags = self.plan.flags
        for place, (value, flag) in reversed(self.going):
            many = below.get(place, 0)
            if not is_left_out(self.plan, place == "", value, many):
                self.cells[place] = (value, told_flag(flags, place == "", value, many, flag))
                self.children[place] = many
                below[place[:-1]] = below.get(place[:-1], 0) + 1

    def take_part(self, top, side):
        """Takes over the part that a side has at a place."""
        waiting = [top]
        while waiting:
            place = waiting.pop()
            self.cells[place] = cell_at(side, place)
            self.children[place] = len(side.below(place))
            waiting.extend([place + letter for letter in side.below(place)])

    def first_clash(self):
        """The first place, in order, at which the merge clashes; None if it does not."""
        return in_order(self.clashes, self.letters)[0] if len(self.clashes) > 0 else None

    def as_tree(self):
        """The Tree of the result, TooMany if it has too many places."""
        return Tree(self.letters, [(place,) + self.cells[place] for place in self.cells])

    def taken_rows(self):
        """A list of the pairs (place, side) of the parts that were taken as they are, in order."""
        side_of = dict(self.taken)
        return [(place, side_of[place]) for place in in_order(list(side_of), self.letters)]


def cell_at(tree, place):
    """The pair (value, flag) of a place of a tree, None if it is not there."""
    return tree.row(place)[1:] if tree.has(place) else None
