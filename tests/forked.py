"""Forks told once more, straight from the document: from trees ([25], [26]), and from any fork tables below ([27])."""

from tests import oracle
from tests.merges import Mix, due, part_of
from tests.spelled import Spelled
from treeshed.answers import kind_of_answer
from treeshed.questions import stories_of


def nested(places, top):
    """The part at a top of a dict from places to pairs (value, flag), as merges have it; None if it is missing."""
    if top not in places:
        return None
    below = sorted(place for place in places if len(place) == len(top) + 1 and place.startswith(top))
    return places[top] + ({place[-1]: nested(places, place) for place in below},)


def triple_on(plan, question, tree, pair):
    """The triple of a fork question on a Tree."""
    start = oracle.rows_of_tree(tree)
    answers, sides = [], []
    for routine, which, value in question.calls:
        answer, behind = oracle.called(start, routine, pair[which], value)
        answers.append(kind_of_answer(answer))
        sides.append(behind)
    mix = Mix(plan, tree.letters, part_of(tree), nested(sides[0], ""), nested(sides[1], ""))
    if mix.clashes:
        return tuple(answers) + ("clash",)
    ends = []
    for side, (routine, which, value) in zip(sides, question.calls[::-1]):
        ends.append(mix.part == nested(oracle.called(side, routine, pair[which], value)[1], ""))
    return tuple(answers) + ({(True, True): "both", (True, False): "first", (False, True): "second",
        (False, False): "neither"}[tuple(ends)],)


def merges_at(plan, question, tree, pair, top):
    """What the merges of a part of a Tree come to, for all single states of both calls."""
    places = oracle.rows_of_tree(tree)
    words = tuple(which for which in (0, 1) if pair[which].startswith(top))
    there = top in places

    def behind(story):
        kind, row = story
        part = oracle.part_at(places, top) if kind == "old" else {top: (None, False)}
        for number in row:
            part = oracle.went_in(question, number, part, pair, top)[1]
        return nested(part, top)

    stories = [behind(story) for story in stories_of(question, words, there)]
    origin = "old" if there else "new"
    told = []
    states = [[None, behind((origin, ()))] + ([behind((origin, (number,)))] if number in words else [])
              for number in (0, 1)]
    base = nested(places, top)
    for one in states[0]:
        for other in states[1]:
            mix = Mix(plan, tree.letters, base, one, other, top)
            if mix.clashes:
                told.append(("clash",))
            elif mix.part is None:
                told.append(("none",))
            else:
                told.append(("as", stories.index(mix.part)) if mix.part in stories else ("other",))
    return tuple(told)


class Forked:
    """A fork table over any fork tables below, as [27] spells it out."""

    def __init__(self, plan, question, rule, words, cell, below, root):
        self.plan, self.words, self.below = plan, words, below
        self.spelled = Spelled(question, rule, words, cell, [table for table, _ in below], root)
        self.stories = stories_of(question, words, cell is not None)
        if root:
            self.stories = [story for story in self.stories if story[0] == "old"]
        self.states = {story: self.spelled.state(*story)[0] for story in self.stories}
        trees = [self.spelled.tree(self.states[story]) for story in self.stories]
        self.tree = {story: trees.index(tree) for story, tree in zip(self.stories, trees)}
        self.origin = "old" if cell is not None else "new"

    def singles(self, number, words):
        """The single states of a call in a part that these words lead to."""
        rows = [(), (number,)] if number in words else [()]
        return [None] + [(self.origin, row) for row in rows]

    def merges(self):
        return tuple(self.merge(one, other) for one in self.singles(0, self.words)
                     for other in self.singles(1, self.words))

    def same(self, one, other):
        if one is None or other is None:
            return one is None and other is None
        return self.tree[one] == self.tree[other]

    def whole(self, story):
        return ("none",) if story is None else ("as", self.tree[story])

    def merge(self, one, other):
        plan, base = self.plan, ("old", ()) if self.origin == "old" else None
        if self.same(one, base):
            return self.whole(other)
        if self.same(other, base):
            return self.whole(one)
        if one is None and other is None:
            return ("clash",) if plan.alike == "clash" else ("none",)
        if base is not None and (one is None or other is None):
            if plan.gone == "clash":
                return ("clash",)
            if plan.gone == "kept":
                return self.whole(other if one is None else one)
        return self.go_on(base, one, other)

    def go_on(self, base, one, other):
        plan = self.plan
        states = [None if story is None else self.states[story] for story in (base, one, other)]
        cells = [None if state is None else tuple(state[:2]) for state in states]
        missing = cells[0] if plan.gone == "base" and cells[0] else (None, False)
        was = cells[0] or (None, False)
        first, second = [cell or missing for cell in cells[1:]]
        told = due(was[0], first[0], second[0])
        if first[0] == second[0] != was[0] and plan.alike == "clash" or len(told) == 2 and plan.unlike == "clash":
            return ("clash",)
        value = told[0 if plan.unlike == "one" else -1]
        flag = second[1] if first[1] == was[1] else first[1]
        children = [self.child(at, states[1], states[2]) for at in range(len(self.below))]
        if ("clash",) in children:
            return ("clash",)
        rests = [0 if state is None else state[2] for state in states]
        rest = 0 if rests[1] == 0 or rests[2] == 0 else rests[0]
        many = min(2, rest + sum(child != ("none",) for child in children))
        if plan.tidy and not self.spelled.root and value is None and many == 0:
            return ("none",)
        if plan.flags is not None:
            flag = plan.flags[(self.spelled.root, value is not None, many)]
        if ("other",) in children:
            return ("other",)
        for k, story in enumerate(self.stories):
            state = self.states[story]
            if list(state[:3]) == [value, flag, rest] and all(self.fits(at, told, child) for at, (told, child) in
                    enumerate(zip(state[3], children))):
                return ("as", k)
        return ("other",)

    def fits(self, at, story, child):
        """Whether the child of a story is missing, or the same tree, just as the merged one."""
        if story is None or child == ("none",):
            return story is None and child == ("none",)
        return self.spelled.entries[at][story][0] == child[1]

    def child(self, at, one, other):
        """The entry of a fork table below for what both sides have there."""
        (words, there, _), merges = self.below[at]
        told = []
        for number, state in enumerate((one, other)):
            story = None if state is None else state[3][at]
            rows = [None, ()] + ([(number,)] if number in words else [])
            told.append((rows.index(None if story is None else story[1]), len(rows)))
        return merges[told[0][0] * told[1][1] + told[1][0]]

    def triple(self):
        """The triple at a root."""
        kinds = []
        for number in (0, 1):
            kind, told = self.spelled.state("old", (number,))[1]
            kinds.append("none" if kind == "up" or told == ("at", ("above",)) else told[0])
        made = self.merge(("old", (0,)), ("old", (1,)))
        if made == ("clash",):
            return tuple(kinds) + ("clash",)
        ends = [made == ("as", self.tree[("old", row)]) for row in ((0, 1), (1, 0))]
        outcome = "both" if all(ends) else "first" if ends[0] else "second" if ends[1] else "neither"
        return tuple(kinds) + (outcome,)
