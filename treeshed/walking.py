"""Calls along the way of a word, on a tree that they change."""

from treeshed.doing import Spot, arrive, do_block
from treeshed.errors import TooMany
from treeshed.trees import MOST_PLACES, Tree


class LiveTree:
    """A tree that calls change, place by place."""

    def __init__(self, tree):
        self.letters = tree.letters
        self.value_at = {place: value for place, value, flag in tree.rows}
        self.flag_at = {place: flag for place, value, flag in tree.rows}
        self.children = {place: tree.below(place) for place, value, flag in tree.rows}

    def as_tree(self):
        """The Tree that it is now; TooMany if it has too many places."""
        return Tree(self.letters, [(place, self.value_at[place], self.flag_at[place]) for place in self.value_at])

    def check_size(self):
        """Raises TooMany if there are more places than a tree may have."""
        if len(self.value_at) > MOST_PLACES:
            raise TooMany("places", len(self.value_at), MOST_PLACES)

    def spot(self, word, depth, own):
        """What a call meets at the beginning of its word that is so long."""
        place = word[:depth]
        ends = depth == len(word)
        there = not ends and word[depth] in self.children[place]
        others = min(2, len(self.children[place]) - (1 if there else 0))
        return Spot(self.value_at[place], self.flag_at[place], depth == 0, ends, there, others, own)

    def settle(self, word, depth, spot):
        """Takes over what a call has left at a place."""
        place = word[:depth]
        self.value_at[place] = spot.value
        self.flag_at[place] = spot.flag
        if not spot.ends:
            was_there = word[depth] in self.children[place]
            if spot.there and not was_there:
                self.make(place, word[depth])
            if was_there and not spot.there:
                self.cut(place, word[depth])

    def make(self, place, letter):
        """Makes the child by this letter."""
        self.children[place] += letter
        self.value_at[place + letter] = None
        self.flag_at[place + letter] = False
        self.children[place + letter] = ""

    def cut(self, place, letter):
        """Takes off the child by this letter, with all below it."""
        self.children[place] = self.children[place].replace(letter, "")
        waiting = [place + letter]
        while waiting:
            top = waiting.pop()
            waiting.extend([top + below for below in self.children[top]])
            del self.value_at[top], self.flag_at[top], self.children[top]


def answer_at(spot, place, kept):
    """What a call answers that has ended at a place."""
    ending = spot.ending
    if ending in ("yes", "no"):
        return ending
    if ending == "value":
        return None if spot.value is None else ("is", spot.value)
    if ending == "node":
        return ("at", place)
    if ending == "p":
        return None if kept is None else ("at", kept)
    return None if ending == "stop" else ("misuse", ending)


def walk(live, routine, word, own):
    """Does a call on the tree; its answer."""
    kept = None
    depth = 0
    goes_on = True
    while goes_on:
        spot = live.spot(word, depth, own)
        goes_on = arrive(routine, spot)
        live.settle(word, depth, spot)
        kept = word[:depth] if spot.kept else kept
        if spot.ending is not None:
            return answer_at(spot, word[:depth], kept)
        depth += 1 if goes_on else 0
    if len(routine.up) > 0:
        return climb(live, routine, word, own, depth, kept)
    return None


def climb(live, routine, word, own, depth, kept):
    """Does the block up at the places above the one where the call has turned; its answer."""
    for length in reversed(range(depth)):
        spot = live.spot(word, length, own)
        do_block(routine.up, spot)
        live.settle(word, length, spot)
        if spot.ending is not None:
            return answer_at(spot, word[:length], kept)
    return None
