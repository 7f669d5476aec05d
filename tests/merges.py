"""Merges told once more, straight from the document: to hold the package against.

A part is a triple (value, flag, children) here, children being a dict from letters to parts; None if it is missing.
"""

from treeshed.plans import Plan
from treeshed.rules import Rule
from treeshed.trees import Tree

GONE, ALIKE, UNLIKE = ("clash", "kept", "bare", "base"), ("take", "clash"), ("clash", "one", "other")


def part_of(tree, top=""):
    """The part of a Tree at a place."""
    if not tree.has(top):
        return None
    return tree.row(top)[1:] + ({letter: part_of(tree, top + letter) for letter in tree.below(top)},)


def rows_of(part, top=""):
    """The rows of a part, in any order."""
    rows = [(top,) + part[:2]]
    for letter, child in part[2].items():
        rows.extend(rows_of(child, top + letter))
    return rows


def words_of(part, top=""):
    """A dict from the kept words of a part, or of a missing one, to their values."""
    return {} if part is None else {place: value for place, value, _ in rows_of(part, top) if value is not None}


def in_order(places, letters):
    """The places, letter by letter."""
    return sorted(places, key=lambda place: [letters.index(letter) for letter in place])


def due(base, one, other):
    """What is due for a word with these values."""
    if one == base:
        return (other,)
    if other in (base, one):
        return (one,)
    return (one, other)


class Mix:
    """The merge of three parts, by the numbers of [21]."""

    def __init__(self, plan, letters, base, one, other, top=""):
        self.plan, self.letters = plan, letters
        self.clashes, self.taken = [], []
        self.part = self.merge(base, one, other, top)
        self.clashes = in_order(self.clashes, letters)
        self.taken = in_order_pairs(self.taken, letters)

    def take(self, part, side, place):
        if part is not None:
            self.taken.append((place, side))
        return part

    def merge(self, base, one, other, place):
        plan = self.plan
        if one == base:
            return self.take(other, "other", place)
        if other == base:
            return self.take(one, "one", place)
        if one is None and other is None:
            if plan.alike == "clash":
                self.clashes.append(place)
            return None
        if base is not None and (one is None or other is None):
            if plan.gone == "clash":
                self.clashes.append(place)
                return None
            if plan.gone == "kept":
                return self.take(one, "one", place) if other is None else self.take(other, "other", place)
            counted = (base[:2] if plan.gone == "base" else (None, False)) + ({},)
            one = counted if one is None else one
            other = counted if other is None else other
        return self.go_on((None, False, {}) if base is None else base, one, other, place)

    def go_on(self, base, one, other, place):
        plan = self.plan
        value = self.value(base[0], one[0], other[0], place)
        flag = other[1] if one[1] == base[1] else one[1]
        children = {}
        for letter in self.letters:
            child = self.merge(base[2].get(letter), one[2].get(letter), other[2].get(letter), place + letter)
            if child is not None:
                children[letter] = child
        if plan.tidy and place != "" and value is None and not children:
            return None
        if plan.flags is not None:
            flag = plan.flags[(place == "", value is not None, min(len(children), 2))]
        return (value, flag, children)

    def value(self, base, one, other, place):
        told = due(base, one, other)
        if one != base and other != base and self.plan.alike == "clash" and one == other:
            self.clashes.append(place)
        if len(told) == 1:
            return told[0]
        if self.plan.unlike == "clash":
            self.clashes.append(place)
        return told[0 if self.plan.unlike == "one" else 1]


def in_order_pairs(pairs, letters):
    """Pairs with places ahead, in the order of these."""
    told = dict(pairs)
    return [(place, told[place]) for place in in_order(told, letters)]


def mixed(plan, base, one, other):
    """The Mix of three Trees."""
    return Mix(plan, base.letters, part_of(base), part_of(one), part_of(other))


def kinds_of(part, top):
    """The pairs (at the root, kind) of all places of a part."""
    kinds = [(top == "", (part[0] is not None, part[1], min(2, len(part[2]))))]
    for letter, child in part[2].items():
        kinds.extend(kinds_of(child, top + letter))
    return kinds


def lets(rule, part, top):
    """Whether the rule lets all places of a part."""
    return all(kind in (rule.root if root else rule.others) for root, kind in kinds_of(part, top))


def verdict(plan, rule, base, one, other):
    """What judged_merge says of three Trees."""
    mix = mixed(plan, base, one, other)
    if mix.clashes:
        return "clash"
    values = [words_of(part_of(tree)) for tree in (base, one, other)]
    made = words_of(mix.part)
    for word in set(made) | set(values[0]) | set(values[1]) | set(values[2]):
        if made.get(word) not in due(*[told.get(word) for told in values]):
            return "words"
    return "right" if lets(rule, mix.part, "") else "rule"


def case_at(plan, rule, base, one, other, top):
    """The case of the parts of three Trees at a place."""
    parts = [part_of(tree, top) for tree in (base, one, other)]
    mix = Mix(plan, base.letters, *parts, top)
    values = [words_of(part, top) for part in parts]
    words = set(values[0]) | set(values[1]) | set(values[2])
    triples = [tuple(told.get(word) for told in values) for word in words]
    there = tuple(part is not None for part in parts)
    told = (
        parts[1] == parts[0], parts[2] == parts[0],
        any(first == second is not None for first, second, _ in triples),
        any(first == third is not None for first, _, third in triples),
        any(second != first != third for first, second, third in triples))
    made = words_of(mix.part, top)
    if mix.clashes:
        outcome = "clash"
    elif mix.part is None:
        outcome = "none"
    elif any(made.get(word) not in due(*[told.get(word) for told in values]) for word in words | set(made)):
        outcome = "words"
    else:
        outcome = "tree" if lets(rule, mix.part, top) else "rule"
    return there + told + (outcome,)


def some_flags(source):
    """Flags for all twelve keys."""
    return {(root, kept, children): source.random() < 0.5
            for root in (False, True) for kept in (False, True) for children in range(3)}


def some_plan(source):
    """Any plan, in a third of the cases with flags."""
    flags = some_flags(source) if source.random() < 0.33 else None
    return Plan(source.choice(GONE), source.choice(ALIKE), source.choice(UNLIKE), source.random() < 0.5, flags)


def exchanged(plan):
    """The plan with one and other exchanged."""
    unlike = {"one": "other", "other": "one", "clash": "clash"}[plan.unlike]
    return Plan(plan.gone, plan.alike, unlike, plan.tidy, plan.flags)


def some_exact_rule(source):
    """An exact rule with any flags."""
    root = [(kept, kept + children > 0 and source.random() < 0.4, children)
            for kept in (False, True) for children in range(3)]
    others = [(kept, source.random() < 0.4, children) for kept, _, children in root[1:]]
    return Rule(root, others)


def some_side(source, tree, changes):
    """A tree made of another one by some changes: places made and cut, values and flags set."""
    rows = {place: [value, flag] for place, value, flag in tree.rows}
    for _ in range(source.randint(0, changes)):
        place = source.choice(list(rows))
        chance = source.random()
        if chance < 0.3 and place:
            rows = {other: told for other, told in rows.items() if not other.startswith(place)}
        elif chance < 0.6:
            rows.setdefault(place + source.choice(tree.letters), [source.choice([None, 1, 2, 3]), False])
        elif chance < 0.9:
            rows[place][0] = source.choice([None, 1, 2, 3, 9])
        else:
            rows[place][1] = not rows[place][1]
    return Tree(tree.letters, [(place, value, flag) for place, (value, flag) in rows.items()])


def some_map(source, letters, many, longest=3):
    """A dict from some words to values."""
    words = ["".join(source.choice(letters) for _ in range(source.randint(0, longest))) for _ in range(many)]
    return {word: source.choice([1, 2, 3]) for word in words}


def some_changed_map(source, words, letters, changes):
    """A map made of another one by some puts, sets and strikes, often of the same words."""
    behind = dict(words)
    for _ in range(source.randint(0, changes)):
        word = "".join(source.choice(letters) for _ in range(source.randint(0, 3)))
        if words and source.random() < 0.6:
            word = source.choice(sorted(words))
        if source.random() < 0.5:
            behind.pop(word, None)
        else:
            behind[word] = source.choice([1, 2, 3])
    return behind


def merged_maps(plan, base, one, other):
    """The map merged word by word, and the words that both changed to unlike values, and to the same."""
    made, unlike, alike = {}, [], []
    for word in set(base) | set(one) | set(other):
        values = [told.get(word) for told in (base, one, other)]
        told = due(*values)
        if len(told) == 2:
            unlike.append(word)
        elif values[1] == values[2] != values[0]:
            alike.append(word)
        value = told[-1] if plan.unlike == "other" else told[0]
        if value is not None:
            made[word] = value
    return made, unlike, alike
