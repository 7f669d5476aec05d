"""Calls on a told tree, and what they leave of it."""

from treeshed.copies import as_tuples
from treeshed.errors import BadCall, BadValue, BadWord, TooMany
from treeshed.routines import Routine
from treeshed.walking import LiveTree, walk
from treeshed.words import is_value, is_word

MOST_CALLS = 200


def call(tree, routine, word, value):
    """The pair of the answer of a call and the tree behind it."""
    check_word_and_value(tree.letters, word, value, 0)
    live = LiveTree(tree)
    answer = walk(live, routine, word, value)
    return answer, live.as_tree()


def check_word_and_value(letters, word, value, number):
    """Raises an error if a call with this number may not have this word or value."""
    if not is_word(word, letters):
        raise BadWord(number)
    if not is_value(value):
        raise BadValue(number)


class Played:
    """What a row of calls has shown."""

    def __init__(self, trees, answers, made, struck, old, kept_shared):
        self.trees = as_tuples(trees)
        self.answers = as_tuples(answers)
        self.made = as_tuples(made)
        self.struck = as_tuples(struck)
        self.old = as_tuples(old)
        self.kept_shared = as_tuples(kept_shared)


def played(tree, calls):
    """What the calls show, done one behind the other, the first one on the tree."""
    check_calls(tree.letters, calls)
    live = LiveTree(tree)
    trees, answers = [tree], []
    for routine, word, value in calls:
        answers.append(walk(live, routine, word, value))
        trees.append(live.as_tree())
    made = [places_beside(trees[number + 1], trees[number]) for number in range(len(calls))]
    struck = [places_beside(trees[number], trees[number + 1]) for number in range(len(calls))]
    old = places_in_all(trees)
    changed = places_of_changes(trees)
    return Played(trees, answers, made, struck, old, [place for place in old if place not in changed])


def check_calls(letters, calls):
    """Raises an error if the calls may not be played on a tree over these letters."""
    if len(calls) > MOST_CALLS:
        raise TooMany("calls", len(calls), MOST_CALLS)
    for number, told in enumerate(calls):
        if not isinstance(told, (tuple, list)) or len(told) != 3 or not isinstance(told[0], Routine):
            raise BadCall(number)
        check_word_and_value(letters, told[1], told[2], number)


def places_beside(tree, other):
    """A list of the places of a tree that another one lacks."""
    return [place for place, value, flag in tree.rows if not other.has(place)]


def places_in_all(trees):
    """A list of the places that are in each of the trees."""
    places = [place for place, value, flag in trees[0].rows]
    for tree in trees[1:]:
        places = [place for place in places if tree.has(place)]
    return places


def places_of_changes(trees):
    """A dict with all places whose parts are not the same in each of the trees."""
    changed = {}
    for number in range(len(trees) - 1):
        one, other = trees[number], trees[number + 1]
        for tree, beside in ((one, other), (other, one)):
            for row in tree.rows:
                if not beside.has(row[0]) or beside.row(row[0]) != row:
                    note_beginnings(row[0], changed)
    return changed


def note_beginnings(place, noted):
    """Notes a place and all its beginnings, as far as they are not noted yet."""
    length = len(place)
    while length >= 0 and place[:length] not in noted:
        noted[place[:length]] = True
        length -= 1
