"""Histories: deeds done one behind the other, undone amid the others, and put in the least order."""

from treeshed.answers import kind_of_answer
from treeshed.errors import InTheWay, NoDeed, NoNumber, TooMany
from treeshed.plays import check_word_and_value
from treeshed.questions import relation_of
from treeshed.walking import LiveTree, walk
from treeshed.words import is_integer, sort_key

MOST_DEEDS = 200


def answers_of(deeds, tree, history):
    """The tuple of the answers of a history that is done on the tree."""
    check_history(deeds, tree, history)
    return tuple(done(LiveTree(tree), deeds, history))


def in_the_way(book, deeds, tree, history, number):
    """The least later number for whose key the book does not tell True; None if there is none."""
    check_number(history, number)
    return first_in_the_way(book, told_deeds(deeds, tree, history), number)


def undone(book, deeds, tree, history, number):
    """The tree that the other deeds leave, done on the tree in their order."""
    later = in_the_way(book, deeds, tree, history, number)
    if later is not None:
        raise InTheWay(later)
    live = LiveTree(tree)
    done(live, deeds, list(history[:number]) + list(history[number + 1:]))
    return live.as_tree()


def least_row(book, deeds, tree, history):
    """The tuple of the numbers of a history, again and again the least one that is free."""
    told = told_deeds(deeds, tree, history)
    order = sorted([
        (name, sort_key(word, tree.letters), value, number) for number, (name, word, value, kind) in enumerate(told)])
    left = [number for name, word, value, number in order]
    before = numbers_before(book, told)
    row = []
    while left:
        # The least number of all is always free, so there is one.
        number = [other for other in left if len(before[other]) == 0][0]
        row.append(number)
        left.remove(number)
        for other in left:
            before[other].pop(number, None)
    return tuple(row)


def check_number(history, number):
    """Raises NoNumber for any value that is no number of the history."""
    if not is_integer(number) or not 0 <= number < len(history):
        raise NoNumber(number)


def check_history(deeds, tree, history):
    """Raises an error if the history may not be done on the tree."""
    if len(history) > MOST_DEEDS:
        raise TooMany("deeds", len(history), MOST_DEEDS)
    for number, (name, word, value) in enumerate(history):
        if not isinstance(name, str) or name not in deeds:
            raise NoDeed(name)
        check_word_and_value(tree.letters, word, value, number)


def done(live, deeds, history):
    """Does a history on a tree that it changes; a list of the answers."""
    answers = []
    for name, word, value in history:
        answers.append(walk(live, deeds[name], word, value))
        live.check_size()
    return answers


def told_deeds(deeds, tree, history):
    """A list of tuples (name, word, value, kind of the answer), one for each deed of a history."""
    answers = answers_of(deeds, tree, history)
    return [
        (name, word, value, kind_of_answer(answer)) for (name, word, value), answer in zip(history, answers)]


def may_change_places(book, one, other):
    """Whether the book tells True for the key of two deeds, told as told_deeds tells them."""
    name, word, value, kind = one
    later_name, later_word, later_value, later_kind = other
    relation = relation_of((word, later_word))
    return book.commutes(name, kind, later_name, later_kind, relation, value == later_value) is True


def first_in_the_way(book, told, number):
    """The least later number that may not change places with this one; None if there is none."""
    for later in range(number + 1, len(told)):
        if not may_change_places(book, told[number], told[later]):
            return later
    return None


def numbers_before(book, told):
    """For each number a dict with those less than it with which it is not free."""
    before = [{} for one in told]
    for later, other in enumerate(told):
        for number, one in enumerate(told[:later]):
            if not may_change_places(book, one, other) or not may_change_places(book, other, one):
                before[later][number] = True
    return before
