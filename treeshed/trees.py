"""Trees: places that are told by words, with values and flags."""

from treeshed.errors import BadItem, BadLetters, BadRow, Lone, NoPlace, TooMany
from treeshed.words import in_order, is_letters, is_value, is_word, shared_length

MOST_PLACES = 2000


class Tree:
    """A tree over letters; it does not change."""

    def __init__(self, letters, rows):
        if not is_letters(letters):
            raise BadLetters(letters)
        if not 1 <= len(rows) <= MOST_PLACES:
            raise TooMany("places", len(rows), MOST_PLACES)
        row_of = rows_by_place(letters, rows)
        places = in_order(list(row_of), letters)
        self.letters = letters
        self.rows = tuple([row_of[place] for place in places])
        self.size = len(places)
        self.height = max([len(place) for place in places])
        self._row_of = row_of
        self._below = letters_below(places)

    @classmethod
    def of(cls, letters, items):
        """The tree without flags that keeps just the words of these pairs."""
        if not is_letters(letters):
            raise BadLetters(letters)
        values = values_by_word(letters, items)
        # Counted first: very many long words would have far more places than a tree may have.
        many = count_beginnings(in_order(list(values), letters))
        if many > MOST_PLACES:
            raise TooMany("places", many, MOST_PLACES)
        rows = [(place, values.get(place), False) for place in beginnings(values)]
        return cls(letters, rows)

    def __eq__(self, other):
        return isinstance(other, Tree) and self.letters == other.letters and self.rows == other.rows

    def has(self, place):
        """Whether this place is there, for any value."""
        return isinstance(place, str) and place in self._row_of

    def value_of(self, word):
        """The value that the tree keeps for any value; None if it keeps none."""
        return self._row_of[word][1] if self.has(word) else None

    def row(self, place):
        """The triple (place, value, flag)."""
        if not self.has(place):
            raise NoPlace(place)
        return self._row_of[place]

    def below(self, place):
        """The letters by which the place has children, in order."""
        if not self.has(place):
            raise NoPlace(place)
        return self._below[place]

    def word_items(self):
        """The pairs (word, value) of the kept words, in order."""
        return tuple([(place, value) for place, value, flag in self.rows if value is not None])


def is_row(value, letters):
    """Whether any value is a triple of a place, a value or None, and a flag."""
    if not isinstance(value, (tuple, list)) or len(value) != 3:
        return False
    place, kept, flag = value
    return is_word(place, letters) and (kept is None or is_value(kept)) and isinstance(flag, bool)


def is_item(value, letters):
    """Whether any value is a pair of a word and a value."""
    if not isinstance(value, (tuple, list)) or len(value) != 2:
        return False
    word, kept = value
    return is_word(word, letters) and is_value(kept)


def rows_by_place(letters, rows):
    """A dict from the places to their rows, as tuples."""
    found = {}
    for number, row in enumerate(rows):
        if not is_row(row, letters) or row[0] in found:
            raise BadRow(number)
        found[row[0]] = tuple(row)
    return found


def values_by_word(letters, items):
    """A dict from the words of the pairs to their values."""
    found = {}
    for number, item in enumerate(items):
        if not is_item(item, letters) or item[0] in found:
            raise BadItem(number)
        found[item[0]] = item[1]
    return found


def letters_below(places):
    """A dict from the places, which stand in order, to the letters of their children."""
    below = {}
    for place in places:
        if place != "":
            # In order each parent comes ahead of its children, so one that is not here is nowhere.
            if place[:-1] not in below:
                raise Lone(place)
            below[place[:-1]] += place[-1]
        below[place] = ""
    return below


def count_beginnings(words):
    """How many places "" and all beginnings of these words are; the words stand in order."""
    many = 1
    before = ""
    for word in words:
        many += len(word) - shared_length(word, before)
        before = word
    return many


def beginnings(words):
    """A list of "" and all beginnings of the words, each once."""
    places = {"": True}
    for word in words:
        for length in range(1, len(word) + 1):
            places[word[:length]] = True
    return list(places)
