"""Tables: what the way above a part can learn of it."""

from treeshed.folding import Ends, Fold, Folder
from treeshed.questions import stories_of
from treeshed.words import is_integer, is_value

WORDS = ((0,), (1,), (0, 1))
GREATEST_PLACE = 63


def is_let(rule, cell, there, root):
    """Whether a cell is let over tables below of which so many are there."""
    if cell is None:
        return not root and there == 0
    value, flag, rest = cell
    if (value is not None, flag, min(2, rest + there)) not in (rule.root if root else rule.others):
        return False
    return rest == 0 or any([children == 0 for kept, flagged, children in rule.others])


def longer(question, rule, words, cell, below):
    """The table of a part, told by its cell and the tables below."""
    folder = Folder(question, rule)
    return folder.told_over(words, cell, [folder.part_of(table) for table in below])


def whole(question, rule, cell, below):
    """What unlike_on says of a tree of the rule, told by the root's cell and the tables below."""
    folder = Folder(question, rule)
    return verdict(Fold(folder, (0, 1), cell, [folder.part_of(table) for table in below], True))


def verdict(fold):
    """What unlike_on says of a tree of the rule with this root."""
    ends = Ends(fold)
    for number, kind in fold.folder.question.where:
        if ends.kind(number) != kind:
            return "not asked"
    for aspect in fold.folder.question.aspects:
        if not ends.holds(aspect):
            return aspect
    return None


def is_table(question, value):
    """Whether any value is of the form of a table of the question."""
    if not isinstance(value, tuple) or len(value) != 3:
        return False
    words, there, entries = value
    if not is_words(words) or not isinstance(there, bool) or not isinstance(entries, tuple):
        return False
    rows = [row for kind, row in stories_of(question, words, there)]
    if len(entries) != len(rows):
        return False
    return all([is_entry(entry, calls_behind(row, rows, question), len(rows)) for entry, row in zip(entries, rows)])


def is_words(value):
    """Whether any value is a tuple of words that a part may have."""
    return isinstance(value, tuple) and all([is_integer(word) for word in value]) and value in WORDS


def calls_behind(row, rows, question):
    """A list of the calls that may come behind a row."""
    return [number for number in range(len(question.calls)) if row + (number,) in rows]


def is_index(value, least, many):
    """Whether any value is an integer from the least one on, below many."""
    return is_integer(value) and least <= value < many


def is_entry(value, calls, many):
    """Whether any value is of the form of an entry with outcomes of these calls, one of so many."""
    if not isinstance(value, tuple) or len(value) != 6:
        return False
    tree, old, shared, cursor, ruled, outcomes = value
    if not is_index(tree, 0, many) or not is_index(old, -1, many) or not is_index(shared, -1, many):
        return False
    if not isinstance(cursor, bool) or not isinstance(ruled, bool) or not isinstance(outcomes, tuple):
        return False
    if not all([isinstance(told, tuple) and len(told) == 2 and is_integer(told[0]) for told in outcomes]):
        return False
    return [told[0] for told in outcomes] == calls and all([is_outcome(told[1]) for told in outcomes])


def is_outcome(value):
    """Whether any value is of the form of an outcome."""
    if not is_tuple_of_words(value, 2):
        return False
    kind, told = value
    return is_where(told) if kind == "up" else kind == "end" and is_table_answer(told)


def is_tuple_of_words(value, many):
    """Whether any value is a tuple of so many, a string ahead."""
    return isinstance(value, tuple) and len(value) == many and isinstance(value[0], str)


def is_where(value):
    """Whether any value tells a place as outcomes do."""
    if is_tuple_of_words(value, 1):
        return value[0] in ("above", "here")
    return is_tuple_of_words(value, 2) and value[0] == "at" and is_index(value[1], 0, GREATEST_PLACE + 1)


def is_table_answer(value):
    """Whether any value tells an answer as outcomes do."""
    if is_tuple_of_words(value, 1):
        return value[0] in ("yes", "no", "none")
    if not is_tuple_of_words(value, 2):
        return False
    kind, told = value
    if kind == "is":
        return is_value(told)
    if kind == "misuse":
        return isinstance(told, str) and told in ("there", "none")
    return kind == "at" and is_where(told)
