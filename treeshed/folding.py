"""Folding: what calls do at a place, told by its cell and by the tables of the parts below."""

from treeshed.answers import kind_of_answer
from treeshed.doing import Spot, arrive, do_block
from treeshed.questions import rows_of

ABOVE = ("above",)
HERE = ("here",)
# Where the fields of an entry stand.
TREE = 0
OLD = 1
SHARED = 2
CURSOR = 3
RULED = 4
OUTCOMES = 5


class Frame:
    """The rows for some words, numbered in order, and which of them lengthen which."""

    def __init__(self, question, words):
        self.words = words
        rows = rows_of(question, words)
        number_of = {row: number for number, row in enumerate(rows)}
        self.many = len(rows)
        # For each row but the empty one: the number of the row that it lengthens, and the call at its end.
        self.steps = [(number_of[row[:-1]], row[-1]) for row in rows[1:]]
        # For each row: a dict from the calls that may come next to the rows behind them.
        self.next_rows = [{} for row in rows]
        for number, row in enumerate(rows[1:]):
            self.next_rows[number_of[row[:-1]]][row[-1]] = number + 1


class Below:
    """A table of a part below a place, with its stories numbered as its entries are."""

    def __init__(self, frame, table):
        self.words = frame.words
        self.there = table[1]
        self.entries = table[2]
        self.first_new = frame.many if self.there else 0
        self.outcomes = [dict(entry[OUTCOMES]) for entry in self.entries]
        self.next_stories = []
        for story in range(len(self.entries)):
            first = self.first_new if story >= self.first_new else 0
            longer = frame.next_rows[story - first]
            self.next_stories.append({call: first + longer[call] for call in longer})


class Folder:
    """What is told once for a question and a rule, and what its blocks have been seen to do."""

    def __init__(self, question, rule):
        self.question = question
        self.rule = rule
        self.frames = {}
        self.arrivals = {}
        self.climbs = {}

    def frame_of(self, words):
        """The rows for these words."""
        if words not in self.frames:
            self.frames[words] = Frame(self.question, words)
        return self.frames[words]

    def part_of(self, table):
        """The table, as one below a place."""
        return Below(self.frame_of(table[0]), table)

    def told_over(self, words, cell, lower):
        """What is told of a place that is not the root: its table."""
        return Stories(Fold(self, words, cell, lower)).table()

    def key_of(self, table):
        """What stands for a table among the keys of a dict."""
        return table

    def arrived(self, met):
        """What a call that comes from above leaves: (value, flag, there, kept place, outcome or None to go down)."""
        if met not in self.arrivals:
            self.arrivals[met] = arrival(self.question.calls[met[0]], met)
        return self.arrivals[met]

    def climbed(self, met):
        """What a call that comes from below leaves: (value, flag, there, ending)."""
        if met not in self.climbs:
            routine, which, own = self.question.calls[met[0]]
            spot = met_spot(met, own)
            do_block(routine.up, spot)
            self.climbs[met] = (spot.value, spot.flag, spot.there, spot.ending)
        return self.climbs[met]


def met_spot(met, own):
    """What a call meets, told by a tuple with its number ahead."""
    number, value, flag, root, ends, there, others = met
    return Spot(value, flag, root, ends, there, others, own)


def arrival(told, met):
    """What a call leaves that comes from above, as Folder.arrived tells."""
    routine, which, own = told
    spot = met_spot(met, own)
    goes_down = arrive(routine, spot)
    kept = HERE if spot.kept else ABOVE
    outcome = None
    if spot.ending is not None:
        outcome = ("end", table_answer(spot.ending, spot.value, kept))
    elif not goes_down:
        outcome = ("up", kept) if len(routine.up) > 0 else ("end", ("none",))
    return (spot.value, spot.flag, spot.there, kept, outcome)


def table_answer(ending, value, kept):
    """What a table tells of the answer of a call that has ended at a place."""
    if ending in ("yes", "no"):
        return (ending,)
    if ending == "value":
        return ("none",) if value is None else ("is", value)
    if ending == "node":
        return ("at", HERE)
    if ending == "p":
        return ("at", kept)
    return ("none",) if ending == "stop" else ("misuse", ending)


def lifted(where, way, kept):
    """A place that a table below tells, seen from the place above; kept is what the call has kept there."""
    return kept if where == ABOVE else ("below", way, where)


def numbered(outcome, numbers):
    """The outcome with a number for a place below; numbers tells those that have one, and takes new ones."""
    kind, told = outcome
    if kind == "up":
        return (kind, numbered_place(told, numbers))
    if told[0] == "at":
        return (kind, ("at", numbered_place(told[1], numbers)))
    return outcome


def numbered_place(where, numbers):
    """The place with a number, if it is one below."""
    if where[0] != "below":
        return where
    if where not in numbers:
        numbers[where] = len(numbers)
    return ("at", numbers[where])


def firsts(marks):
    """A list that tells for each mark the index of the first equal one."""
    found = {}
    indexes = []
    for index, mark in enumerate(marks):
        if mark not in found:
            found[mark] = index
        indexes.append(found[mark])
    return indexes


def with_story(stories, way, story):
    """The stories with another one for the table below on this way."""
    return stories[:way] + (story,) + stories[way + 1:]


class Fold:
    """A place over some parts below, to be played at; a state is a tuple (value, flag, rest, stories)."""

    def __init__(self, folder, words, cell, parts, root=False):
        self.folder = folder
        self.frame = folder.frame_of(words)
        self.cell = cell
        self.parts = parts
        self.root = root
        # For each call the index of the table below to which its word goes on, or None.
        self.ways = [self.way_of(which) for routine, which, value in folder.question.calls]

    def way_of(self, which):
        """The index of the table below to which this word goes on; None if it ends here."""
        for way, part in enumerate(self.parts):
            if which in part.words:
                return way
        return None

    def old_start(self):
        """The state of the place as it is at first."""
        return self.cell + (tuple([0 if part.there else None for part in self.parts]),)

    def new_start(self):
        """The state of the place when it has just been made."""
        return (None, False, 0, (None,) * len(self.parts))

    def play(self, state, number):
        """The pair of the state behind a call and its outcome."""
        value, flag, rest, stories = state
        way = self.ways[number]
        there = way is not None and stories[way] is not None
        others = rest + len(stories) - stories.count(None) - (1 if there else 0)
        met = (number, value, flag, self.root, way is None, there, min(2, others))
        value, flag, now_there, kept, outcome = self.folder.arrived(met)
        if now_there != there:
            stories = with_story(stories, way, self.parts[way].first_new if now_there else None)
        if outcome is not None:
            return (value, flag, rest, stories), outcome
        return self.go_down((value, flag, rest, stories), number, kept, met[-1])

    def go_down(self, state, number, kept, others):
        """The pair of the state behind a call that goes on down from here, and its outcome."""
        value, flag, rest, stories = state
        way = self.ways[number]
        part = self.parts[way]
        kind, told = part.outcomes[stories[way]][number]
        stories = with_story(stories, way, part.next_stories[stories[way]][number])
        if kind == "end":
            if told[0] == "at":
                told = ("at", lifted(told[1], way, kept))
            return (value, flag, rest, stories), ("end", told)
        kept = lifted(told, way, kept)
        value, flag, there, ending = self.folder.climbed((number, value, flag, self.root, False, True, others))
        if not there:
            stories = with_story(stories, way, None)
        outcome = ("up", kept) if ending is None else ("end", table_answer(ending, value, kept))
        return (value, flag, rest, stories), outcome

    def fields_below(self, stories, field, missing):
        """A tuple of what the entries of these stories tell in a field; missing where a part is."""
        if len(stories) == 0:
            return ()
        if len(stories) == 1:
            return (missing if stories[0] is None else self.parts[0].entries[stories[0]][field],)
        return tuple([
            missing if story is None else part.entries[story][field] for part, story in zip(self.parts, stories)])

    def tree_mark(self, state):
        """What is equal for two states just if the trees are."""
        return state[:3] + self.fields_below(state[3], TREE, None)

    def shared_mark(self, state, steady):
        """What is equal for two states just if the shared places are; None if there are none."""
        if steady:
            return "all"
        mark = self.fields_below(state[3], SHARED, -1)
        return None if state[2] == 0 and mark.count(-1) == len(mark) else mark

    def keeps_cursor(self, stories, old):
        """Whether the place of word 0 is not lost behind these stories, here or below."""
        if 0 not in self.frame.words:
            return True
        way = self.way_of(0)
        if way is None:
            return old or self.cell is None
        part = self.parts[way]
        return part.entries[part.first_new if stories[way] is None else stories[way]][CURSOR]

    def is_ruled(self, state):
        """Whether the rule lets the place and all below it."""
        value, flag, rest, stories = state
        rule = self.folder.rule
        many = min(2, rest + len(stories) - stories.count(None))
        if (value is not None, flag, many) not in (rule.root if self.root else rule.others):
            return False
        return False not in self.fields_below(stories, RULED, True)


def played_rows(fold, start):
    """The states behind all rows from a start, and for each a list of the calls that may follow and their outcomes."""
    states = [start]
    outcomes = [[] for _ in range(fold.frame.many)]
    for row, number in fold.frame.steps:
        state, outcome = fold.play(states[row], number)
        states.append(state)
        outcomes[row].append((number, outcome))
    return states, outcomes


def steady_rows(fold, trees):
    """For each row whether the tree is the same behind each beginning of it; trees has an index for each."""
    steady = [True]
    for number, (row, _) in enumerate(fold.frame.steps):
        steady.append(steady[row] and trees[number + 1] == trees[0])
    return steady


class Stories:
    """The states behind all stories of a place, in their order, and what calls do there next."""

    def __init__(self, fold):
        self.fold = fold
        self.states, self.outcomes = [], []
        if fold.cell is not None:
            self.states, self.outcomes = played_rows(fold, fold.old_start())
        self.first_new = len(self.states)
        # The root is never made.
        if not fold.root:
            states, outcomes = played_rows(fold, fold.new_start())
            self.states = self.states + states
            self.outcomes = self.outcomes + outcomes
        self.marks = [fold.tree_mark(state) for state in self.states]
        self.trees = firsts(self.marks)

    def table(self):
        """The table of the place."""
        fold = self.fold
        olds, shares = self.old_and_shared()
        numbers = {}
        entries = []
        for story, state in enumerate(self.states):
            is_old = story < self.first_new
            told = tuple([(number, numbered(outcome, numbers)) for number, outcome in self.outcomes[story]])
            cursor = fold.keeps_cursor(state[3], is_old)
            old, shared = (olds[story], shares[story]) if is_old else (-1, -1)
            entries.append((self.trees[story], old, shared, cursor, fold.is_ruled(state), told))
        return (fold.frame.words, fold.cell is not None, tuple(entries))

    def old_and_shared(self):
        """For the states of a part that was there at first: the indexes of the first ones with these places."""
        fold = self.fold
        states = self.states[:self.first_new]
        if len(states) == 0:
            return [], []
        olds = firsts([fold.fields_below(state[3], OLD, -1) for state in states])
        steady = steady_rows(fold, self.trees)
        marks = [fold.shared_mark(state, steady[row]) for row, state in enumerate(states)]
        shares = [-1 if mark is None else index for mark, index in zip(marks, firsts(marks))]
        return olds, shares


class Ends:
    """What the two scripts of a question come to at a root."""

    def __init__(self, fold):
        question = fold.folder.question
        self.fold = fold
        self.one_answers, self.one_state, self.one_steady = script_end(fold, question.one)
        self.other_answers, self.other_state, self.other_steady = script_end(fold, question.other)

    def kind(self, number):
        """The kind of what script one answers."""
        return kind_of_answer(self.one_answers[number])

    def holds(self, aspect):
        """Whether this aspect holds."""
        fold, one, other = self.fold, self.one_state, self.other_state
        if aspect == "answers":
            both = [number for number in self.one_answers if number in self.other_answers]
            return all([self.one_answers[number] == self.other_answers[number] for number in both])
        if aspect == "trees":
            return fold.tree_mark(one) == fold.tree_mark(other)
        if aspect == "places":
            return fold.fields_below(one[3], OLD, -1) == fold.fields_below(other[3], OLD, -1)
        if aspect == "shared":
            return fold.shared_mark(one, self.one_steady) == fold.shared_mark(other, self.other_steady)
        if aspect == "cursor":
            return fold.keeps_cursor(one[3], True)
        return fold.is_ruled(one)


def script_end(fold, script):
    """The answers, the state behind a script, and whether the tree was the same all the time."""
    state = fold.old_start()
    first = fold.tree_mark(state)
    answers = {}
    steady = True
    for number in script:
        state, outcome = fold.play(state, number)
        answers[number] = root_answer(outcome)
        steady = steady and fold.tree_mark(state) == first
    return answers, state, steady


def root_answer(outcome):
    """What a call has answered that has this outcome at the root."""
    kind, told = outcome
    return ("none",) if kind == "up" or told == ("at", ABOVE) else told
