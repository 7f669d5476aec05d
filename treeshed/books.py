"""Books: which keys of two deeds commute."""

from treeshed.closing import Closing, check_asked, is_relation
from treeshed.errors import BadName, BadRelation
from treeshed.folding import Ends, Folder
from treeshed.known import SAME_WORD, TEXTS, known_routine
from treeshed.questions import Question, enough_values
from treeshed.words import is_name

PAIR_ASPECTS = ("answers", "trees", "places", "shared")
# The deeds of the known book, and the kinds of what they answer.
BOOK_KINDS = {
    "has": ("yes", "no"), "get": ("is", "no"), "put": ("yes", "no"), "set": ("yes", "no"), "strike": ("yes", "no"),
}


class Book:
    """Keys, each told True or False; it does not change."""

    def __init__(self, rows):
        self._told = {key: rows[key] for key in rows}

    def __eq__(self, other):
        return isinstance(other, Book) and self._told == other._told

    def told_rows(self):
        """A dict from the keys to what is told of them."""
        return {key: self._told[key] for key in self._told}

    def commutes(self, first, kind, second, later, relation, alike):
        """What is told of the key of these six, any values; None if nothing is."""
        key = (first, kind, second, later, relation, alike)
        if not all([isinstance(part, str) for part in key[:-1]]) or not isinstance(alike, bool):
            return None
        return self._told.get(key)


def pairs(first, second, rule, relation, alike, values):
    """A dict from the pairs of kinds that two calls answer to the aspects that then hold the other way round."""
    check_asked(relation, values)
    closing = Closing(Folder(pair_question(first, second, alike), rule), relation, values)
    found = {}
    for root in closing.roots():
        ends = Ends(closing.fold_of(root))
        kinds = (ends.kind(0), ends.kind(1))
        # What has failed once is not asked again.
        found[kinds] = tuple([aspect for aspect in found.get(kinds, PAIR_ASPECTS) if ends.holds(aspect)])
    return found


def pair_question(first, second, alike):
    """The question of two routines with values that are alike or not, in both orders."""
    return Question([(first, 0, 1), (second, 1, 1 if alike else 2)], (0, 1), (1, 0), PAIR_ASPECTS)


def booked(deeds, rule, relation):
    """The Book of all keys of this relation that come up, True for just those that commute."""
    for name in deeds:
        if not is_name(name):
            raise BadName(name)
    if not is_relation(relation):
        raise BadRelation(relation)
    rows = {}
    for first in deeds:
        for second in deeds:
            for alike in (True, False):
                values = enough_values(pair_question(deeds[first], deeds[second], alike))
                told = pairs(deeds[first], deeds[second], rule, relation, alike, values)
                for kind, later in told:
                    key = (first, kind, second, later, relation, alike)
                    rows[key] = told[(kind, later)][:2] == PAIR_ASPECTS[:2]
    return Book(rows)


def known_deeds():
    """A dict from the names of the known deeds to their routines."""
    return {name: known_routine(name) for name in TEXTS}


def known_book():
    """The Book of has, get, put, set and strike in the rule plain."""
    rows = {}
    for first, kind, second, later, alike, unlike in SAME_WORD:
        if alike is not None:
            rows[(first, kind, second, later, "same", True)] = alike
        if unlike is not None:
            rows[(first, kind, second, later, "same", False)] = unlike
    for first in BOOK_KINDS:
        for second in BOOK_KINDS:
            for key in unlike_word_keys(first, second):
                rows[key] = True
    return Book(rows)


def unlike_word_keys(first, second):
    """A list of the keys of two deeds of the known book with unlike words, which all come up and commute."""
    # In plain these deeds ask and change the value of their own word alone, and a tree is told by its map.
    return [
        (first, kind, second, later, relation, alike)
        for kind in BOOK_KINDS[first] for later in BOOK_KINDS[second]
        for relation in ("within", "around", "apart") for alike in (True, False)]
