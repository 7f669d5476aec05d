"""Counting and making the parts that rows of kinds let, for a told number of places.

A part is made as a tuple of rows (place, value, flag), its top first at the place "".
"""

from itertools import combinations
from math import comb


def top_labels(kinds, values):
    """For 0, 1 and 2 children: the pairs (value, flag) that the kinds let a place have."""
    labels = [[], [], []]
    for kept, flag, children in kinds:
        held = values if kept else [None]
        labels[children].extend([(value, flag) for value in held])
    return labels


def splits(many):
    """All tuples of integers from 1 on that together are so many."""
    if many == 0:
        return [()]
    return [(first,) + rest for first in range(1, many + 1) for rest in splits(many - first)]


def count_under(split, labels, letters, counts):
    """How many parts have children of these sizes, in the order of letters."""
    many = len(labels[min(2, len(split))]) * comb(len(letters), len(split))
    for size in split:
        many = many * counts[size]
    return many


def count_parts(size, labels, letters, counts):
    """How many parts of this size there are; counts tells it of the parts below, by their sizes."""
    return sum([count_under(split, labels, letters, counts) for split in splits(size - 1)])


def counts_below(size, labels, letters):
    """A list that tells, for each number of places below this size, how many parts have it."""
    counts = [0]
    for many in range(1, size):
        counts.append(count_parts(many, labels, letters, counts))
    return counts


class Maker:
    """Makes parts, those of one size once; labels and counts are those of parts below the root."""

    def __init__(self, letters, labels, counts):
        self.letters = letters
        self.labels = labels
        self.counts = counts
        self.parts_by_size = {}

    def parts_of(self, size):
        """A list of all parts of this size that may stand below the root."""
        if size not in self.parts_by_size:
            self.parts_by_size[size] = self.parts_with(size, self.labels)
        return self.parts_by_size[size]

    def parts_with(self, size, labels):
        """A list of all parts of this size whose tops have one of these labels."""
        found = []
        for split in splits(size - 1):
            # Parts that fit nowhere are not made: whatever is made below stands in a whole part.
            if count_under(split, labels, self.letters, self.counts) > 0:
                tops = [("", value, flag) for value, flag in labels[min(2, len(split))]]
                for chosen in combinations(self.letters, len(split)):
                    rows_below = self.rows_under(chosen, split)
                    found.extend([(top,) + rows for top in tops for rows in rows_below])
        return found

    def rows_under(self, chosen, split):
        """A list of the rows of all ways to hang parts of these sizes to these letters."""
        found = [()]
        for letter, size in zip(chosen, split):
            hung = [hung_to(letter, part) for part in self.parts_of(size)]
            found = [rows + more for rows in found for more in hung]
        return found


def hung_to(letter, part):
    """The rows of a part that hangs at this letter."""
    return tuple([(letter + place, value, flag) for place, value, flag in part])
