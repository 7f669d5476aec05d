"""Merging three trees, and what is due for their words."""

from treeshed.copies import as_tuples
from treeshed.mixing import due_values
from treeshed.weaving import Weave, check_letters


class Merged:
    """The tree that a merge has made, and the parts that it took as they were."""

    def __init__(self, tree, taken):
        self.tree = as_tuples(tree)
        self.taken = as_tuples(taken)


class Clash:
    """The first place at which a merge clashes."""

    def __init__(self, place):
        self.place = as_tuples(place)


def merged(plan, base, one, other):
    """What the merge of two sides over a base makes: a Merged, or a Clash."""
    check_letters(base, one, other)
    weave = Weave(plan, base, one, other)
    place = weave.first_clash()
    if place is not None:
        return Clash(place)
    return Merged(weave.as_tree(), weave.taken_rows())


def due(base, one, other, word):
    """The tuple of the values due for any value as a word."""
    check_letters(base, one, other)
    return due_values(base.value_of(word), one.value_of(word), other.value_of(word))


def judged_merge(plan, rule, base, one, other):
    """The first that holds of a merge: "clash", "words", "rule", or "right"."""
    made = merged(plan, base, one, other)
    if isinstance(made, Clash):
        return "clash"
    for tree in (base, one, other):
        for place, value, flag in tree.rows:
            if made.tree.value_of(place) not in due(base, one, other, place):
                return "words"
    return "right" if rule.keeps(made.tree) else "rule"
