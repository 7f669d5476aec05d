"""What [11] and [12] tell of tables, told once more as the document spells it out: for any tables of the form."""

from tests import oracle
from treeshed.questions import stories_of

ABOVE, HERE = ("above",), ("here",)


class Spelled:
    """A table as the document spells it out: stories are told as themselves, entries are looked up by them."""

    def __init__(self, question, rule, words, cell, below, root):
        self.question, self.rule, self.words = question, rule, words
        self.cell, self.below, self.root = cell, below, root
        self.entries = [dict(zip(stories_of(question, told, there), entries)) for told, there, entries in below]
        self.rows = oracle.all_rows(question, words)

    def way(self, which):
        return ([at for at, (told, _, _) in enumerate(self.below) if which in told] + [None])[0]

    def state(self, kind, row):
        """The state behind a story; the outcome of the last call is kept beside it."""
        if row:
            return self.behind(self.state(kind, row[:-1])[0], row[-1])
        if kind == "new":
            return [None, False, 0, [None for _ in self.below]], None
        return list(self.cell) + [[("old", ()) if there else None for _, there, _ in self.below]], None

    def behind(self, state, number):
        routine, which, own = self.question.calls[number]
        value, flag, rest, stories = state
        return Steps(self, routine, own, self.way(which), [value, flag, rest, list(stories)]).call(number)

    def fields(self, state, field, missing):
        return tuple(missing if told is None else self.entries[at][told][field] for at, told in enumerate(state[3]))

    def tree(self, state):
        return tuple(state[:3]) + self.fields(state, 0, None)

    def shared(self, kind, row):
        states = [self.state(kind, row[:length])[0] for length in range(len(row) + 1)]
        if all(self.tree(state) == self.tree(states[0]) for state in states):
            return "all"
        told = self.fields(states[-1], 2, -1)
        return None if set(told) <= {-1} and states[-1][2] == 0 else told

    def cursor(self, kind, state):
        if 0 not in self.words:
            return True
        way = self.way(0)
        if way is None:
            return kind == "old" or self.cell is None
        return self.entries[way][state[3][way] or ("new", ())][3]

    def ruled(self, state):
        many = min(2, state[2] + sum(told is not None for told in state[3]))
        kinds = self.rule.root if self.root else self.rule.others
        return (state[0] is not None, state[1], many) in kinds and all(self.fields(state, 4, True))

    def table(self):
        stories = stories_of(self.question, self.words, self.cell is not None)
        states = [self.state(*story)[0] for story in stories]
        trees = [self.tree(state) for state in states]
        olds = [self.fields(state, 1, -1) if kind == "old" else None for (kind, _), state in zip(stories, states)]
        shares = [self.shared(*story) if story[0] == "old" else None for story in stories]
        numbers, entries = {}, []
        for at, (kind, row) in enumerate(stories):
            calls = [number for number in range(len(self.question.calls)) if row + (number,) in self.rows]
            outcomes = tuple((number, self.told(self.state(kind, row + (number,))[1], numbers)) for number in calls)
            entries.append((
                trees.index(trees[at]), -1 if kind == "new" else olds.index(olds[at]),
                -1 if shares[at] is None else shares.index(shares[at]), self.cursor(kind, states[at]),
                self.ruled(states[at]), outcomes))
        return (self.words, self.cell is not None, tuple(entries))

    def told(self, outcome, numbers):
        """The outcome with numbers for the places below."""
        kind, what = outcome
        if kind == "up":
            return (kind, self.place(what, numbers))
        return (kind, ("at", self.place(what[1], numbers))) if what[0] == "at" else outcome

    def place(self, where, numbers):
        return where if where in (ABOVE, HERE) else ("at", numbers.setdefault(where, len(numbers)))

    def whole(self):
        question = self.question
        ends, answers = [], []
        for script in (question.one, question.other):
            outcomes = [self.state("old", script[:length + 1])[1] for length in range(len(script))]
            none = ("none",)
            answers.append({number: none if kind == "up" or told == ("at", ABOVE) else told
                            for number, (kind, told) in zip(script, outcomes)})
            ends.append(self.state("old", script)[0])
        one, other = ends
        if any(answers[0][number][0] != kind for number, kind in question.where):
            return "not asked"
        both = [number for number in answers[0] if number in answers[1]]
        holds = {
            "answers": all(answers[0][number] == answers[1][number] for number in both),
            "trees": self.tree(one) == self.tree(other),
            "places": self.fields(one, 1, -1) == self.fields(other, 1, -1),
            "shared": self.shared("old", question.one) == self.shared("old", question.other),
            "cursor": self.cursor("old", one), "rule": self.ruled(one),
        }
        return ([aspect for aspect in question.aspects if not holds[aspect]] + [None])[0]


class Steps(oracle.Walk):
    """One call at the top of a part over tables: the blocks are done by the oracle, on a tree of one level.

    The children that words lead to stand at the letters a and b, the others at c and d.
    """

    def __init__(self, spelled, routine, own, way, state):
        value, flag, rest, stories = state
        self.spelled, self.routine, self.way, self.state = spelled, routine, way, state
        # The root stands at "", another top at "z"; the children stand at the letters behind it.
        self.base = "" if spelled.root else "z"
        places = {self.base: (value, flag)}
        for letter, told in zip("ab", stories):
            if told is not None:
                places[self.base + letter] = (None, False)
        for letter in "cd"[:rest]:
            places[self.base + letter] = (None, False)
        super().__init__(places, self.base + ("" if way is None else "ab"[way]), own, self.base)

    def take(self):
        """Takes over into the state what the blocks have done."""
        self.state[0], self.state[1] = self.places[self.base]
        if self.way is not None:
            child = self.word in self.places
            if child and self.state[3][self.way] is None:
                self.state[3][self.way] = ("new", ())
            if not child:
                self.state[3][self.way] = None

    def where(self):
        return HERE if self.kept == self.base else ABOVE

    def ended(self, told):
        """What the outcome is when a return or a misuse has ended the call here."""
        if told is None or isinstance(told, str):
            return ("end", (told or "none",))
        if told[0] != "at":
            return ("end", told)
        return ("end", ("at", HERE if told[1] == self.base else self.below if told[1] == "below" else ABOVE))

    def call(self, number):
        routine = self.routine
        try:
            goes = self.way is not None
            try:
                if goes:
                    self.do(routine.down)
            except oracle.Stopped:
                goes = False
            if not goes or self.next_child() is None:
                self.do(routine.turn)
                self.take()
                return self.state, ("up", self.where()) if routine.up else ("end", ("none",))
        except oracle.Ended as ended:
            self.take()
            return self.state, self.ended(ended.args[0])
        self.take()
        return self.state, self.further(number)

    def further(self, number):
        kind, row = self.state[3][self.way]
        kind_of_end, told = dict(self.spelled.entries[self.way][(kind, row)][5])[number]
        self.state[3][self.way] = (kind, row + (number,))
        if kind_of_end == "end":
            return ("end", ("at", self.lifted(told[1])) if told[0] == "at" else told)
        self.below = self.lifted(told)
        self.kept = "below"
        try:
            self.do(self.routine.up)
        except oracle.Stopped:
            self.take()
            return ("end", ("none",))
        except oracle.Ended as ended:
            self.take()
            return self.ended(ended.args[0])
        self.take()
        return ("up", self.below)

    def lifted(self, where):
        return self.where() if where == ABOVE else (self.way, where)
