"""Groves: trees that are told by names for their parts, and may be very great."""

from treeshed.errors import BadRank, BadWord, NoPlace, OtherLetters, TooMany
from treeshed.merging import Clash
from treeshed.naming import check_height, check_rules, free_names, names_below
from treeshed.parting import Braid, Differing, Parts
from treeshed.plays import check_word_and_value
from treeshed.trees import MOST_PLACES, Tree
from treeshed.walking import walk
from treeshed.wayside import LiveWay
from treeshed.words import is_integer, is_word


class Grove:
    """A tree told by rules for its parts; it does not change."""

    def __init__(self, letters, rules, root):
        order = check_rules(letters, rules, root)
        check_height(rules, order)
        self.letters = letters
        self.root = root
        self._told = {name: (rules[name][0], rules[name][1], dict(rules[name][2])) for name in rules}
        # The names that the tree needs, each behind all that stand below it.
        self._order = order
        # For each of these names: how many places and how many words its part has.
        self._places, self._words = {}, {}
        for name in order:
            value, _, parts = self._told[name]
            below = list(parts.values())
            self._places[name] = 1 + sum([self._places[part] for part in below])
            self._words[name] = (0 if value is None else 1) + sum([self._words[part] for part in below])
        self.size = self._places[root]
        self.many = self._words[root]

    @property
    def rules(self):
        """A new dict of the rules."""
        return {name: (told[0], told[1], dict(told[2])) for name, told in self._told.items()}

    def has(self, place):
        """Whether this place is there, for any value."""
        return isinstance(place, str) and self._name_at(place) is not None

    def value_of(self, word):
        """The value that the tree keeps for any value; None if it keeps none."""
        return self._told[self._name_at(word)][0] if self.has(word) else None

    def row(self, place):
        """The triple (place, value, flag)."""
        if not self.has(place):
            raise NoPlace(place)
        value, flag, _ = self._told[self._name_at(place)]
        return (place, value, flag)

    def below(self, place):
        """The letters by which the place has children, in order."""
        if not self.has(place):
            raise NoPlace(place)
        parts = self._told[self._name_at(place)][2]
        return "".join([letter for letter in self.letters if letter in parts])

    def unfolded(self):
        """The tree as a Tree."""
        if self.size > MOST_PLACES:
            raise TooMany("places", self.size, MOST_PLACES)
        rows = []
        waiting = [("", self.root)]
        while waiting:
            place, name = waiting.pop()
            value, flag, parts = self._told[name]
            rows.append((place, value, flag))
            waiting.extend([(place + letter, parts[letter]) for letter in parts])
        return Tree(self.letters, rows)

    def begins(self, word):
        """How many kept words begin with a word."""
        self._check_word(word)
        name = self._name_at(word)
        return 0 if name is None else self._words[name]

    def rank(self, word):
        """How many kept words stand ahead of a word, in order."""
        self._check_word(word)
        ahead = 0
        name = self.root
        for letter in word:
            value, _, parts = self._told[name]
            ahead += 0 if value is None else 1
            lesser = self.letters[:self.letters.index(letter)]
            ahead += sum([self._words[parts[other]] for other in lesser if other in parts])
            if letter not in parts:
                return ahead
            name = parts[letter]
        return ahead

    def word_of(self, rank):
        """The kept word of a rank."""
        if not is_integer(rank) or not 0 <= rank < self.many:
            raise BadRank(rank)
        word, name, left = "", self.root, rank
        while left > 0 or self._told[name][0] is None:
            value, _, parts = self._told[name]
            left -= 0 if value is None else 1
            letter, left = self._child_with(parts, left)
            word, name = word + letter, parts[letter]
        return word

    def call(self, routine, word, value):
        """The pair of the answer of a call and the grove behind it."""
        check_word_and_value(self.letters, word, value, 0)
        live = LiveWay(self._told, self.root, word)
        answer = walk(live, routine, word, value)
        kept = names_below(self._told, live.names_beside())
        names = free_names(len(live.tops), kept)
        rules = live.rules_for(names)
        for name in kept:
            rules[name] = self._told[name]
        return answer, Grove(self.letters, rules, names[0])

    def same(self, other):
        """Whether two groves tell the same tree."""
        parts = self._parts_with([other])
        return self._number_in(parts) == other._number_in(parts)

    def differing(self, other):
        """How many words have unlike values in two trees."""
        parts = self._parts_with([other])
        return Differing(parts).how_many((self._number_in(parts), other._number_in(parts)))

    def merged(self, plan, one, other):
        """The grove of the merge of two sides over this one, or the Clash."""
        parts = self._parts_with([one, other])
        start = (True, self._number_in(parts), one._number_in(parts), other._number_in(parts))
        braid = Braid(plan, parts, start)
        if start in braid.clashes:
            return Clash(braid.clashes[start])
        numbers = list(parts.numbers_below(braid.made[start]))
        name_of = dict(zip(numbers, free_names(len(numbers), [])))
        rules = {}
        for number in numbers:
            children = parts.children[number]
            rules[name_of[number]] = parts.cells[number] + ({letter: name_of[children[letter]] for letter in children},)
        return Grove(self.letters, rules, name_of[braid.made[start]])

    def _name_at(self, place):
        """The name of the part at a place, a string; None if there is none."""
        name = self.root
        for letter in place:
            parts = self._told[name][2]
            if letter not in parts:
                return None
            name = parts[letter]
        return name

    def _check_word(self, word):
        """Raises BadWord for any value that is no word over the letters."""
        if not is_word(word, self.letters):
            raise BadWord(0)

    def _child_with(self, parts, rank):
        """The letter of the child in whose part the word of a rank among these parts stands, and its rank there."""
        left = rank
        for letter in self.letters:
            if letter in parts:
                if left < self._words[parts[letter]]:
                    return letter, left
                left -= self._words[parts[letter]]
        return None

    def _parts_with(self, others):
        """Parts to number these groves by; OtherLetters unless all have the same letters."""
        for grove in others:
            if grove.letters != self.letters:
                raise OtherLetters()
        return Parts(self.letters)

    def _number_in(self, parts):
        """The number of the tree among these parts."""
        return parts.number_of_tree(self._told, self._order)
