"""Calls and tables told once more, straight from the document: to hold the package against.

A tree is a dict from its places to pairs (value, flag) here.
"""


class Ended(Exception):
    """A return or a misuse has ended the call."""


class Stopped(Exception):
    """A stop has ended the block."""


def rows_of_tree(tree):
    """The dict of a Tree."""
    return {place: (value, flag) for place, value, flag in tree.rows}


def below(places, place):
    """The children of a place, in any order."""
    return [other for other in places if len(other) == len(place) + 1 and other[:-1] == place]


class Walk:
    """A call within the part at a top; the whole tree is the part at "" with the root at its top."""

    def __init__(self, places, word, own, top=""):
        self.places = dict(places)
        self.word = word
        self.own = own
        self.top = top
        self.at = top
        self.kept = "above"

    def next_child(self):
        child = self.word[:len(self.at) + 1]
        return child if child != self.at and child in self.places else None

    def test(self, test):
        head = test[0]
        if head in ("not", "and", "or"):
            told = [self.test(part) for part in test[1:]]
            return {"not": not told[0], "and": all(told), "or": any(told)}[head]
        value, flag = self.places[self.at]
        beside = [child for child in below(self.places, self.at) if child != self.next_child()]
        return {
            "mark": value is not None, "own": value == self.own, "flag": flag, "root": self.at == "",
            "ends": self.at == self.word, "next": self.next_child() is not None, "true": True,
            "others": len(test) > 1 and min(len(beside), 2) == test[1],
        }[head]

    def answer(self, what):
        value = self.places[self.at][0]
        told = {"yes": "yes", "no": "no", "node": ("at", self.at), "value": value and ("is", value)}
        return ("at", self.kept) if what == "p" else told[what]

    def do(self, block):
        for statement in block:
            value, flag = self.places[self.at]
            head = statement[0]
            if head == "if":
                self.do(statement[2 if self.test(statement[1]) else 3])
            elif head in ("mark", "unmark"):
                self.places[self.at] = (self.own if head == "mark" else None, flag)
            elif head == "flag":
                self.places[self.at] = (value, statement[1])
            elif head == "keep":
                self.kept = self.at
            elif head == "stop":
                raise Stopped()
            elif head == "return":
                raise Ended(self.answer(statement[1]))
            elif (head == "make") == (self.next_child() is not None):
                raise Ended(("misuse", "there" if head == "make" else "none"))
            elif head == "make":
                self.places[self.word[:len(self.at) + 1]] = (None, False)
            else:
                gone = self.next_child()
                self.places = {place: told for place, told in self.places.items() if not place.startswith(gone)}

    def go(self, routine):
        """("end", answer) or ("up", kept place); answers are as calls tell them, a kept place may be "above"."""
        try:
            self.go_down(routine)
            if not routine.up:
                return ("end", None)
            while self.at != self.top:
                self.at = self.at[:-1]
                try:
                    self.do(routine.up)
                except Stopped:
                    return ("end", None)
        except Ended as ended:
            return ("end", ended.args[0])
        return ("up", self.kept)

    def go_down(self, routine):
        while self.at != self.word:
            try:
                self.do(routine.down)
            except Stopped:
                break
            if self.next_child() is None:
                break
            self.at = self.next_child()
        self.do(routine.turn)


def called(places, routine, word, own):
    """The pair of the answer of a call and the dict of the tree behind it."""
    walk = Walk(places, word, own)
    kind, told = walk.go(routine)
    return (None if kind == "up" or told == ("at", "above") else told), walk.places


def old_places(trees):
    """The places that are in each of the trees."""
    return {place for place in trees[0] if all(place in tree for tree in trees)}


def part_at(places, top):
    """The part at a place."""
    return {place: told for place, told in places.items() if place.startswith(top)}


def shared_places(trees):
    """The old places whose parts are the same in each of the trees."""
    return {
        place for place in old_places(trees) if all(part_at(tree, place) == part_at(trees[0], place) for tree in trees)}


def all_rows(question, words):
    """The rows for some words, in order."""
    found = set()
    for script in (question.one, question.other):
        mine = [number for number in script if question.calls[number][1] in words]
        for chosen in range(2 ** len(mine)):
            found.add(tuple(number for bit, number in enumerate(mine) if chosen >> bit & 1))
    return sorted(found, key=lambda row: (len(row), row))


def table_at(question, rule, places, pair, top):
    """The table of the part at a place that is not the root, from the trees behind its stories."""
    words = tuple(which for which in (0, 1) if pair[which].startswith(top))
    rows = all_rows(question, words)
    starts = [("old", part_at(places, top))] if top in places else []
    starts.append(("new", {top: (None, False)}))
    stories, outcomes = [], []
    for kind, start in starts:
        for row in rows:
            trees = [start]
            for number in row:
                trees.append(went_in(question, number, trees[-1], pair, top)[1])
            stories.append((kind, trees))
            outcomes.append([
                (number, went_in(question, number, trees[-1], pair, top)[0])
                for number in range(len(question.calls)) if row + (number,) in rows])
    entries = entries_of(stories, rule, places, pair, top, words)
    told = numbered(outcomes, top)
    return (words, top in places, tuple(entry + (outcome,) for entry, outcome in zip(entries, told)))


def went_in(question, number, places, pair, top):
    """The outcome of a call in a part, and the part behind it."""
    routine, which, value = question.calls[number]
    walk = Walk(places, pair[which], value, top)
    return walk.go(routine), walk.places


def entries_of(stories, rule, places, pair, top, words):
    """The entries without their outcomes."""
    olds = [old_places(trees) if kind == "old" else None for kind, trees in stories]
    shares = [shared_places(trees) if kind == "old" else None for kind, trees in stories]
    found = []
    for (kind, trees), old, shared in zip(stories, olds, shares):
        tree = [other[-1] == trees[-1] for _, other in stories].index(True)
        cursor = 0 not in words or pair[0] not in places or (kind == "old" and pair[0] in old)
        found.append((
            tree, olds.index(old) if kind == "old" else -1, shares.index(shared) if shared else -1, cursor,
            is_ruled(trees[-1], rule, pair, top)))
    return found


def is_ruled(places, rule, pair, top):
    """Whether the kinds of the places on the ways of the words are let."""
    on_ways = {word[:length] for word in pair if word.startswith(top) for length in range(len(top), len(word) + 1)}
    kinds = [(places[place][0] is not None, places[place][1], min(2, len(below(places, place))))
             for place in on_ways if place in places]
    return all(kind in rule.others for kind in kinds)


def numbered(outcomes, top):
    """The outcomes as tables tell them, with numbers for the places below the top."""
    numbers = {}

    def where(place):
        if place == "above":
            return ("above",)
        return ("here",) if place == top else ("at", numbers.setdefault(place, len(numbers)))

    def told(outcome):
        kind, what = outcome
        if kind == "up":
            return ("up", where(what))
        if isinstance(what, tuple):
            return ("end", ("at", where(what[1])) if what[0] == "at" else what)
        return ("end", (what or "none",))

    return [tuple((number, told(outcome)) for number, outcome in row) for row in outcomes]


def folded(longer, question, rule, tree, pair, place=""):
    """The root's cell and tables below, the tables told by longer from the ends of both ways up."""
    words = tuple(which for which in (0, 1) if pair[which].startswith(place))
    tops = list(dict.fromkeys(pair[which][:len(place) + 1] for which in words if pair[which] != place))
    lower = []
    for top in tops:
        cell, tables = folded(longer, question, rule, tree, pair, top)
        mine = tuple(which for which in words if pair[which].startswith(top))
        lower.append(longer(question, rule, mine, cell, tables))
    if not tree.has(place):
        return None, tuple(lower)
    rest = len([child for child in below(rows_of_tree(tree), place) if child not in tops])
    return tree.row(place)[1:] + (min(2, rest),), tuple(lower)
