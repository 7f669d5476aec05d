"""Questions: what is asked of calls in two orders, on a tree and a pair of words."""

from treeshed.answers import is_answer_kind, kind_of_answer
from treeshed.errors import BadAspect, BadCall, BadScript, BadWhere, BadWord, TooMany
from treeshed.plays import played
from treeshed.routines import Routine
from treeshed.words import GREATEST_VALUE, is_integer, is_value, is_word

ASPECTS = ("answers", "trees", "places", "shared", "cursor", "rule")
MOST_CALLS = 4
MOST_NUMBERS = 4


class Question:
    """Calls, two scripts of their numbers, and what is looked at; it does not change."""

    def __init__(self, calls, one, other, aspects, where=None):
        self.calls = checked_calls(calls)
        self.one = checked_script("one", one, len(calls))
        self.other = checked_script("other", other, len(calls))
        if len(one) + len(other) > MOST_NUMBERS:
            raise TooMany("numbers", len(one) + len(other), MOST_NUMBERS)
        self.aspects = checked_aspects(aspects)
        self.where = checked_where({} if where is None else where, one)

    def __eq__(self, other):
        return (
            isinstance(other, Question) and self.calls == other.calls and self.one == other.one
            and self.other == other.other and self.aspects == other.aspects and self.where == other.where)


def checked_calls(calls):
    """The tuple of the calls, as triples."""
    if not 1 <= len(calls) <= MOST_CALLS:
        raise TooMany("calls", len(calls), MOST_CALLS)
    for index, told in enumerate(calls):
        if not is_call(told):
            raise BadCall(index)
    return tuple([tuple(told) for told in calls])


def is_call(value):
    """Whether any value is a triple of a Routine, the number of a word, and a value."""
    if not isinstance(value, (tuple, list)) or len(value) != 3:
        return False
    routine, which, own = value
    return isinstance(routine, Routine) and is_integer(which) and 0 <= which <= 1 and is_value(own)


def checked_script(name, script, many):
    """The tuple of the numbers of a script over so many calls."""
    found = []
    for index, number in enumerate(script):
        if not is_integer(number) or not 0 <= number < many or number in found:
            raise BadScript(name, index)
        found.append(number)
    return tuple(found)


def checked_aspects(aspects):
    """The tuple of the aspects."""
    found = []
    for index, aspect in enumerate(aspects):
        if not isinstance(aspect, str) or aspect not in ASPECTS or aspect in found:
            raise BadAspect(index)
        found.append(aspect)
    return tuple(found)


def checked_where(where, one):
    """The tuple of the pairs (number, kind), ascending."""
    for number in where:
        if not is_integer(number) or number not in one or not is_answer_kind(where[number]):
            raise BadWhere(number)
    return tuple(sorted([(number, where[number]) for number in where]))


def relation_of(pair):
    """How the second of two words stands to the first one."""
    first, second = pair
    if first == second:
        return "same"
    if second.startswith(first):
        return "within"
    return "around" if first.startswith(second) else "apart"


def enough_values(question):
    """The values of the calls and the two least others, ascending."""
    own = [value for routine, which, value in question.calls]
    others = [value for value in range(1, GREATEST_VALUE + 1) if value not in own]
    return tuple(sorted(set(own + others[:2])))


def rows_of(question, words):
    """The tuple of the rows for some words, in order."""
    found = {}
    for script in (question.one, question.other):
        rows = [()]
        for number in script:
            if question.calls[number][1] in words:
                rows = rows + [row + (number,) for row in rows]
        for row in rows:
            found[row] = True
    return tuple([row for length, row in sorted([(len(row), row) for row in found])])


def stories_of(question, words, there):
    """The tuple of the stories of a part that these words lead to."""
    rows = rows_of(question, words)
    old = [("old", row) for row in rows] if there else []
    return tuple(old + [("new", row) for row in rows])


def unlike_on(question, rule, tree, pair):
    """The first aspect that does not hold on a tree and a pair of words; None if all hold."""
    for index, word in enumerate(pair):
        if not is_word(word, tree.letters):
            raise BadWord(index)
    if not rule.keeps(tree):
        return "not asked"
    one, other = [played(tree, calls_of(question, script, pair)) for script in (question.one, question.other)]
    answers = dict(zip(question.one, one.answers))
    for number, kind in question.where:
        if kind_of_answer(answers[number]) != kind:
            return "not asked"
    for aspect in question.aspects:
        if not aspect_holds(aspect, question, rule, pair, one, other):
            return aspect
    return None


def calls_of(question, script, pair):
    """A list of the calls of a script with these words."""
    found = []
    for number in script:
        routine, which, value = question.calls[number]
        found.append((routine, pair[which], value))
    return found


def aspect_holds(aspect, question, rule, pair, one, other):
    """Whether an aspect holds of what the two scripts have shown."""
    if aspect == "answers":
        answers = dict(zip(question.one, one.answers))
        both = list(zip(question.other, other.answers))
        return all([answer == answers[number] for number, answer in both if number in answers])
    if aspect == "trees":
        return one.trees[-1] == other.trees[-1]
    if aspect == "places":
        return one.old == other.old
    if aspect == "shared":
        return one.kept_shared == other.kept_shared
    if aspect == "cursor":
        return pair[0] in one.old or not one.trees[0].has(pair[0])
    return rule.keeps(one.trees[-1])
