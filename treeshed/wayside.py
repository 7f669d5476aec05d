"""Calls along the way of a word in a grove: only the places of the way are made anew."""

from treeshed.doing import Spot


class LiveWay:
    """The places of a word's way as far as they are there; walks change them as they change a LiveTree."""

    def __init__(self, rules, root, word):
        self.word = word
        # For each place a list [value, flag, parts], parts being a dict from letters to names.
        self.tops = []
        name = root
        while name is not None:
            value, flag, parts = rules[name]
            letter = word[len(self.tops):len(self.tops) + 1]
            self.tops.append([value, flag, dict(parts)])
            name = parts.get(letter)

    def spot(self, word, depth, own):
        """What a call meets at the beginning of its word that is so long."""
        value, flag, parts = self.tops[depth]
        ends = depth == len(word)
        there = not ends and word[depth] in parts
        others = min(2, len(parts) - (1 if there else 0))
        return Spot(value, flag, depth == 0, ends, there, others, own)

    def settle(self, word, depth, spot):
        """Takes over what a call has left at a place."""
        parts = self.tops[depth][2]
        self.tops[depth][0] = spot.value
        self.tops[depth][1] = spot.flag
        if not spot.ends:
            letter = word[depth]
            if spot.there and letter not in parts:
                # No name stands for it yet; there is nothing behind it on the way.
                parts[letter] = None
                self.tops.append([None, False, {}])
            if letter in parts and not spot.there:
                del parts[letter]
                del self.tops[depth + 1:]

    def on_way(self, depth, letter):
        """Whether the child by this letter is the next place of the way."""
        return depth + 1 < len(self.tops) and letter == self.word[depth]

    def names_beside(self):
        """A list of the names of the children that do not lie on the way."""
        return [
            parts[letter] for depth, (_, _, parts) in enumerate(self.tops)
            for letter in parts if not self.on_way(depth, letter)]

    def rules_for(self, names):
        """The rules of the places of the way, by these names."""
        rules = {}
        for depth, (value, flag, parts) in enumerate(self.tops):
            told = {}
            for letter in parts:
                told[letter] = names[depth + 1] if self.on_way(depth, letter) else parts[letter]
            rules[names[depth]] = (value, flag, told)
        return rules
