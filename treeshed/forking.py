"""Fork tables: what two calls, done side by side and merged, come to in a part.

A single state is told by the story of the part that the call leaves, or None if the part is missing then. The base's
story is always the first one: a part that was there at first has ("old", ()) ahead of all others.
"""

from treeshed.folding import Below, Fold, Folder, Stories, root_answer
from treeshed.mixing import is_left_out, merged_cell, next_step, told_flag

CLASH = ("clash",)
NONE = ("none",)
OTHER = ("other",)


class ForkBelow(Below):
    """A fork table of a part below a place."""

    def __init__(self, frame, told):
        Below.__init__(self, frame, told[0])
        self.merges = told[1]
        # The single states of call 1: missing, there, and with the call, if its word leads here.
        self.other_states = 3 if 1 in frame.words else 2

    def state_number(self, story):
        """Which of the single states of a call this is, the story being one that the call alone leaves."""
        if story is None:
            return 0
        return 1 if story in (0, self.first_new) else 2

    def merge_of(self, one, other):
        """What is told of the merge of two single states."""
        return self.merges[self.state_number(one) * self.other_states + self.state_number(other)]


class ForkFolder(Folder):
    """What is told once for a plan, a fork question and a rule."""

    def __init__(self, plan, question, rule):
        Folder.__init__(self, question, rule)
        self.plan = plan
        self.told_flags = plan.flags
        self.table_numbers = {}

    def part_of(self, told):
        """The fork table, as one below a place."""
        return ForkBelow(self.frame_of(told[0][0]), told)

    def told_over(self, words, cell, lower):
        """The fork table of a place that is not the root."""
        stories = Stories(Fold(self, words, cell, lower))
        ones, others = single_states(stories, 0), single_states(stories, 1)
        return (stories.table(), tuple([self.merge(stories, one, other) for one in ones for other in others]))

    def key_of(self, told):
        """What stands for a fork table among the keys of a dict, where it would be nested too deep."""
        table, merges = told
        if table not in self.table_numbers:
            self.table_numbers[table] = len(self.table_numbers)
        return (self.table_numbers[table], merges)

    def merge(self, stories, one, other):
        """What the merge makes of the part in these single states of the two calls."""
        base = None if stories.fold.cell is None else 0
        there = (base is not None, one is not None, other is not None)
        step = next_step(self.plan, there, is_same(stories, one, base), is_same(stories, other, base))
        if step == "on":
            return self.merge_on(stories, base, one, other)
        if step == "clash":
            return CLASH
        # With "nothing" both are missing.
        taken = one if step == "one" else other
        return NONE if taken is None else ("as", stories.trees[taken])

    def merge_on(self, stories, base, one, other):
        """What the merge makes of the part where it goes on."""
        fold = stories.fold
        states = [None if story is None else stories.states[story] for story in (base, one, other)]
        made = merged_cell(self.plan, [None if state is None else state[:2] for state in states])
        children = [
            part.merge_of(child_story(states[1], way), child_story(states[2], way))
            for way, part in enumerate(fold.parts)]
        if made is None or CLASH in children:
            return CLASH
        rest = merged_rest(states)
        many = rest + len(children) - children.count(NONE)
        value, flag = made
        if is_left_out(self.plan, fold.root, value, many):
            return NONE
        if OTHER in children:
            return OTHER
        trees = tuple([None if child == NONE else child[1] for child in children])
        mark = (value, told_flag(self.told_flags, fold.root, value, many, flag), rest) + trees
        return ("as", stories.marks.index(mark)) if mark in stories.marks else OTHER


def single_states(stories, number):
    """A list of the single states of a call, as stories."""
    behind = stories.fold.frame.next_rows[0]
    return [None, 0, behind[number]] if number in behind else [None, 0]


def is_same(stories, story, base):
    """Whether a part in this story and the base's part are the same."""
    if story is None or base is None:
        return story is None and base is None
    return stories.trees[story] == stories.trees[base]


def child_story(state, way):
    """The story of the child on this way of a side in this state, None if there is none."""
    return None if state is None else state[3][way]


def merged_rest(states):
    """How many children that no word leads to the merge leaves, told by the states of base, one and other."""
    base, one, other = [0 if state is None else state[2] for state in states]
    return 0 if one == 0 or other == 0 else base


def triple_at(fold):
    """The triple of a fork question at a root."""
    stories = Stories(fold)
    rows = fold.frame.next_rows
    one, other = rows[0][0], rows[0][1]
    outcomes = dict(stories.outcomes[0])
    kinds = (root_answer(outcomes[0])[0], root_answer(outcomes[1])[0])
    made = fold.folder.merge(stories, one, other)
    if made == CLASH:
        return kinds + ("clash",)
    # At the root the merge is never nothing; the scripts' stories are those behind both calls, in either order.
    first, second = [stories.trees[rows[one][1]], stories.trees[rows[other][0]]]
    return kinds + (outcome_of(made == ("as", first), made == ("as", second)),)


def outcome_of(first, second):
    """The outcome where the merged tree is, or is not, that of script one, and that of script other."""
    if first and second:
        return "both"
    if first:
        return "first"
    return "second" if second else "neither"
