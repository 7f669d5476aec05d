"""Rules: which kinds of places a tree may have."""

from treeshed.errors import BadKind, BadLetters, BadName, BadSize, BadValues, NotExact, TooMany
from treeshed.growing import Maker, count_parts, counts_below, top_labels
from treeshed.trees import Tree
from treeshed.words import is_integer, is_letters, is_value

# What a kind tells but for its flag: (kept, children).
SHAPES = ((False, 0), (False, 1), (False, 2), (True, 0), (True, 1), (True, 2))
MOST_SIZE = 8
MOST_TREES = 5000


class Rule:
    """The kinds that are let at the root, and those at other places; it does not change."""

    def __init__(self, root, others):
        self.root = checked_kinds("root", root)
        self.others = checked_kinds("others", others)

    def __eq__(self, other):
        return isinstance(other, Rule) and self.root == other.root and self.others == other.others

    def keeps(self, tree):
        """Whether the tree keeps the rule."""
        return self.broken_at(tree) is None

    def broken_at(self, tree):
        """The first place, in order, whose kind is not let; None if there is none."""
        for place, value, flag in tree.rows:
            let = self.root if place == "" else self.others
            if kind_of(tree, place) not in let:
                return place
        return None

    def is_exact(self):
        """Whether just one tree of the rule keeps each map from words to values."""
        if shapes_of(self.root) != list(SHAPES) or (False, False, 0) not in self.root:
            return False
        return shapes_of(self.others) == list(SHAPES[1:])

    def tree_of(self, letters, items):
        """The one tree of an exact rule that keeps just the words of these pairs."""
        flags = flags_of(self)
        bare = Tree.of(letters, items)
        rows = []
        for place, value, flag in bare.rows:
            kept, _, children = kind_of(bare, place)
            rows.append((place, value, flags[(place == "", kept, children)]))
        return Tree(letters, rows)


def is_kind(value):
    """Whether any value is a kind, as a tuple or a list."""
    if not isinstance(value, (tuple, list)) or len(value) != 3:
        return False
    kept, flag, children = value
    return isinstance(kept, bool) and isinstance(flag, bool) and is_integer(children) and 0 <= children <= 2


def checked_kinds(side, kinds):
    """The tuple of the kinds, ascending."""
    found = []
    for number, kind in enumerate(kinds):
        if not is_kind(kind) or tuple(kind) in found:
            raise BadKind(side, number)
        found.append(tuple(kind))
    return tuple(sorted(found))


def shapes_of(kinds):
    """What the kinds tell but for their flags, ascending, as often as they tell it."""
    return sorted([(kept, children) for kept, flag, children in kinds])


def kind_of(tree, place):
    """The kind of a place: whether it has a value, its flag, how many children it has."""
    value, flag = tree.row(place)[1:]
    return (value is not None, flag, min(2, len(tree.below(place))))


def flags_of(rule):
    """A dict from the triples (at_root, kept, children) to the flags that an exact rule lets."""
    if not rule.is_exact():
        raise NotExact()
    flags = {(False, False, 0): False}
    for at_root, kinds in ((False, rule.others), (True, rule.root)):
        for kept, flag, children in kinds:
            flags[(at_root, kept, children)] = flag
    return flags


def least_part(rule):
    """How many places the least part without the root has; None if there is no part."""
    return 1 if any([children == 0 for kept, flag, children in rule.others]) else None


def all_trees(rule, letters, size, values):
    """A list of all trees of the rule with so many places and with these values."""
    check_asked(letters, size, values)
    root_labels = top_labels(rule.root, values)
    labels = top_labels(rule.others, values)
    counts = counts_below(size, labels, letters)
    if count_parts(size, root_labels, letters, counts) > MOST_TREES:
        raise TooMany("trees", MOST_TREES + 1, MOST_TREES)
    maker = Maker(letters, labels, counts)
    return [Tree(letters, rows) for rows in maker.parts_with(size, root_labels)]


def check_asked(letters, size, values):
    """Raises an error if all_trees may not be asked this."""
    if not is_letters(letters):
        raise BadLetters(letters)
    if not is_integer(size) or not 1 <= size <= MOST_SIZE:
        raise BadSize(size)
    least = 1
    for index, value in enumerate(values):
        if not is_value(value) or value < least:
            raise BadValues(index)
        least = value + 1


def known_rule(name):
    """The rule that is known by this name."""
    bare = [(kept, False, children) for kept, children in SHAPES]
    if name == "plain":
        return Rule(bare, bare[1:])
    if name == "joined":
        flagged = [(kept, not kept and children == 1, children) for kept, children in SHAPES[1:]]
        return Rule(bare, flagged)
    if name == "bare":
        return Rule(bare, bare)
    if name == "free":
        free = bare + [(kept, True, children) for kept, children in SHAPES]
        return Rule(free, free)
    raise BadName(name)
