"""Parts that are known by numbers, equal ones by the same: of one grove or several, and of what a merge makes."""

from treeshed.mixing import is_left_out, merged_cell, next_step, told_flag


class Parts:
    """Parts over some letters, numbered as they come up."""

    def __init__(self, letters):
        self.letters = letters
        self.number_of = {}
        # For each number: the cell, a dict from letters to the numbers of the children, and how many words it keeps.
        self.cells = []
        self.children = []
        self.words = []

    def number_for(self, cell, children):
        """The number of the part with this cell and these children, a dict."""
        key = cell + tuple([(letter, children[letter]) for letter in self.letters if letter in children])
        if key not in self.number_of:
            self.number_of[key] = len(self.cells)
            self.cells.append(cell)
            self.children.append({letter: children[letter] for letter in children})
            own = 0 if cell[0] is None else 1
            self.words.append(own + sum([self.words[child] for child in list(children.values())]))
        return self.number_of[key]

    def number_of_tree(self, rules, order):
        """The number of the part that the last name stands for; the names stand lower first."""
        numbers = {}
        for name in order:
            value, flag, parts = rules[name]
            numbers[name] = self.number_for((value, flag), {letter: numbers[parts[letter]] for letter in parts})
        return numbers[order[-1]]

    def child(self, number, letter):
        """The number of the child by this letter; None if there is none, or the part is missing itself."""
        return None if number is None else self.children[number].get(letter)

    def numbers_below(self, number):
        """A dict of this number and those of all parts below."""
        found = {}
        waiting = [number]
        while waiting:
            part = waiting.pop()
            if part not in found:
                found[part] = True
                waiting.extend(list(self.children[part].values()))
        return found


def lower_first(start, keys_below):
    """A list of a key and of all that stand below it, each once and behind those below it."""
    found = []
    seen = {}
    waiting = [(start, False)]
    while waiting:
        key, is_over = waiting.pop()
        if is_over:
            found.append(key)
        elif key not in seen:
            seen[key] = True
            waiting.append((key, True))
            waiting.extend([(below, False) for below in keys_below(key) if below not in seen])
    return found


class Differing:
    """How many words have unlike values in two parts; a key is the pair of their numbers, None for a missing one."""

    def __init__(self, parts):
        self.parts = parts

    def keys_below(self, key):
        """The pairs of the children, where they have to be looked at."""
        one, other = key
        if one == other or one is None or other is None:
            return []
        return [
            (self.parts.child(one, letter), self.parts.child(other, letter)) for letter in self.parts.letters]

    def how_many(self, start):
        """How many words have unlike values in the parts of a pair."""
        found = {}
        for key in lower_first(start, self.keys_below):
            one, other = key
            if one == other:
                found[key] = 0
            elif one is None or other is None:
                found[key] = self.parts.words[other if one is None else one]
            else:
                unlike = self.parts.cells[one][0] != self.parts.cells[other][0]
                found[key] = (1 if unlike else 0) + sum([found[below] for below in self.keys_below(key)])
        return found[start]


class Braid:
    """A merge of parts; a key is (whether it stands at the root, and the numbers of base, one and other)."""

    def __init__(self, plan, parts, start):
        self.plan = plan
        self.told_flags = plan.flags
        self.parts = parts
        # For each key: the number of the merged part, None if it is nothing; or the first place that clashes below it.
        self.made = {}
        self.clashes = {}
        for key in lower_first(start, self.keys_below):
            self.merge(key)

    def step(self, key):
        """What becomes of the three parts of a key."""
        _, base, one, other = key
        there = (base is not None, one is not None, other is not None)
        return next_step(self.plan, there, one == base, other == base)

    def rows_below(self, key):
        """A list of the pairs (letter, key) of what stands below a key with which the merge goes on."""
        found = []
        for letter in self.parts.letters:
            numbers = tuple([self.parts.child(number, letter) for number in key[1:]])
            if numbers != (None, None, None):
                found.append((letter, (False,) + numbers))
        return found

    def keys_below(self, key):
        """The keys that the merge goes on with below a key."""
        return [below for letter, below in self.rows_below(key)] if self.step(key) == "on" else []

    def merge(self, key):
        """Merges the three parts of a key, those below being merged."""
        step = self.step(key)
        if step == "clash":
            self.clashes[key] = ""
        elif step == "on":
            self.merge_on(key)
        else:
            # With "nothing" both are missing.
            self.made[key] = key[2] if step == "one" else key[3]

    def merge_on(self, key):
        """Merges the three parts of a key where the merge goes on."""
        cell = merged_cell(self.plan, [None if number is None else self.parts.cells[number] for number in key[1:]])
        if cell is None:
            self.clashes[key] = ""
            return
        children = {}
        for letter, below in self.rows_below(key):
            if below in self.clashes:
                self.clashes[key] = letter + self.clashes[below]
                return
            if self.made[below] is not None:
                children[letter] = self.made[below]
        root, value, many = key[0], cell[0], len(children)
        self.made[key] = None
        if not is_left_out(self.plan, root, value, many):
            flag = told_flag(self.told_flags, root, value, many, cell[1])
            self.made[key] = self.parts.number_for((value, flag), children)
