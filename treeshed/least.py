"""Trees that have a root of a closing, made of as few places as any has."""

from treeshed.trees import Tree

LETTERS = "abcd"
# The words go on by these letters, other children hang at those.
WAYS = "ab"
BESIDE = "cd"


def leaf_of(rule, values):
    """The pair (value, flag) of a place without children that the rule lets, or None."""
    for kept, flag, children in rule.others:
        if children == 0:
            return (values[0] if kept else None, flag)
    return None


def tree_and_pair(root, rule, values):
    """The pair of a tree with this root, and of the two words that lead through its parts."""
    leaf = leaf_of(rule, values)
    rows = []
    pair = ["", ""]
    waiting = [("", (0, 1), root)]
    while waiting:
        place, words, part = waiting.pop()
        for which in words:
            pair[which] = place
        if part.cell is not None:
            value, flag, rest = part.cell
            rows.append((place, value, flag))
            rows.extend([(place + letter,) + leaf for letter in BESIDE[:rest]])
        # What is below is taken later: so each word ends at the last place that it leads to.
        waiting.extend([(place + letter, lower.told.words, lower) for letter, lower in zip(WAYS, part.lower)])
    return Tree(LETTERS, rows), tuple(pair)
