"""Judging: whether what a question asks holds for all trees of a rule and all words."""

from treeshed.closing import MOST_JOINTS, MOST_TABLES, Closing, bottoms_of, cells_over, check_asked, let_cells
from treeshed.copies import as_tuples
from treeshed.errors import BadRelation, BadValues, TooMany
from treeshed.folding import Fold, Folder, table_of
from treeshed.known import known_routine
from treeshed.least import tree_and_pair
from treeshed.questions import ASPECTS, Question, relation_of, unlike_on
from treeshed.rules import Rule
from treeshed.tables import is_table, verdict
from treeshed.trees import Tree
from treeshed.words import is_word

HOLDING = (None, "not asked")
JUDGED_VALUES = (1, 2)
SETS = ((0,), (1,), (0, 1))
# The sets that a relation does not name.
UNNAMED_SETS = {"same": (0, 1), "within": (0,), "around": (1,), "apart": ()}


class Alike:
    """That what a question asks holds for all trees, with the tables that show it."""

    def __init__(self, question, rule, relation, value_list, tables):
        self.question = as_tuples(question)
        self.rule = as_tuples(rule)
        self.relation = as_tuples(relation)
        self.value_list = as_tuples(value_list)
        self.tables = as_tuples(tables)


class Unlike:
    """A tree and two words for which an aspect of a question does not hold."""

    def __init__(self, question, rule, relation, tree, pair, how):
        self.question = as_tuples(question)
        self.rule = as_tuples(rule)
        self.relation = as_tuples(relation)
        self.tree = as_tuples(tree)
        self.pair = as_tuples(pair)
        self.how = as_tuples(how)


def judge(question, rule, relation, values):
    """An Alike, or an Unlike with as few places as any has."""
    check_asked(relation, values)
    closing = Closing(question, rule, relation, values)
    for root in closing.roots():
        how = verdict(closing.fold_of(root))
        if how not in HOLDING:
            tree, pair = tree_and_pair(root, rule, closing.value_list)
            return Unlike(question, rule, relation, tree, pair, how)
    tables = (closing.zero.all_tables(), closing.one.all_tables(), closing.both.all_tables())
    return Alike(question, rule, relation, closing.value_list, tables)


def is_alike(paper):
    """Whether the tables of an Alike, with any fields, show what it tells."""
    if not isinstance(paper.question, Question) or not isinstance(paper.rule, Rule):
        return False
    if not may_be_judged(paper.relation, paper.value_list) or not are_tables(paper):
        return False
    return is_closed(paper)


def may_be_judged(relation, value_list):
    """Whether judge takes these two, any values, without an error."""
    if not isinstance(value_list, tuple):
        return False
    try:
        check_asked(relation, value_list)
    except (BadRelation, BadValues):
        return False
    return True


def are_tables(paper):
    """Whether the tables of a paper are three tuples of tables of the words of their sets, and not too many."""
    tables = paper.tables
    if not isinstance(tables, tuple) or len(tables) != 3:
        return False
    for number, words in enumerate(SETS):
        if not isinstance(tables[number], tuple) or len(tables[number]) > MOST_TABLES:
            return False
        if number in UNNAMED_SETS[paper.relation] and len(tables[number]) > 0:
            return False
        if not all([is_table(paper.question, table) and table[0] == words for table in tables[number]]):
            return False
    return len(tables[0]) * len(tables[1]) <= MOST_JOINTS


def is_closed(paper):
    """Whether the tables of a paper have among them each one that they ask, and all holds at each root."""
    folder = Folder(paper.question, paper.rule)
    found = [{table: folder.part_of(table) for table in tables} for tables in paper.tables]
    zero, one, both = [list(told.values()) for told in found]
    bottoms = bottoms_of(paper.relation, zero, one)
    cells = let_cells(paper.rule, paper.value_list, False)
    for number, lower in ((0, [()]), (1, [()]), (2, bottoms)):
        named = number not in UNNAMED_SETS[paper.relation]
        if named and not has_what_it_asks(folder, SETS[number], lower, found[number], cells):
            return False
    cells = let_cells(paper.rule, paper.value_list, True)
    return holds_at_roots(folder, bottoms + [(part,) for part in both], cells)


def has_what_it_asks(folder, words, bottoms, found, cells):
    """Whether the tables found have among them each one that is asked over these bottoms and over themselves."""
    for lower in bottoms + [(part,) for part in list(found.values())]:
        for cell in cells_over(lower, cells):
            if table_of(Fold(folder, words, cell, lower)) not in found:
                return False
    return True


def holds_at_roots(folder, lowers, cells):
    """Whether all holds, or is not asked, at each root over these tuples of tables."""
    for lower in lowers:
        for cell in cells_over(lower, cells):
            if verdict(Fold(folder, (0, 1), cell, lower, True)) not in HOLDING:
                return False
    return True


def is_unlike(paper):
    """Whether the tree and the words of an Unlike, with any fields, show what it tells."""
    if not isinstance(paper.question, Question) or not isinstance(paper.rule, Rule):
        return False
    if not isinstance(paper.tree, Tree) or not isinstance(paper.pair, tuple) or len(paper.pair) != 2:
        return False
    if not all([is_word(word, paper.tree.letters) for word in paper.pair]):
        return False
    if relation_of(paper.pair) != paper.relation:
        return False
    try:
        how = unlike_on(paper.question, paper.rule, paper.tree, paper.pair)
    except TooMany:
        return False
    return how in ASPECTS and how == paper.how


def holds_for_all(question, rule, relation):
    """Whether what a question asks holds for all trees and words."""
    return isinstance(judge(question, rule, relation, JUDGED_VALUES), Alike)


def kept_by(routine, rule):
    """Whether behind each call the tree keeps the rule."""
    return holds_for_all(Question([(routine, 0, 1)], [0], [], ["rule"]), rule, "same")


def saves(routine, rule):
    """Whether each call that answers "no" leaves the tree as it was."""
    return holds_for_all(Question([(routine, 0, 1)], [0], [], ["trees"], {0: "no"}), rule, "same")


def undoes(routine, other, rule, kind):
    """Whether a call of other, right behind each call with such an answer, brings the tree back."""
    calls = [(routine, 0, 1), (other, 0, 1)]
    return holds_for_all(Question(calls, [0, 1], [], ["trees"], {0: kind}), rule, "same")


def keeps_cursor(routine, rule, relation, kept):
    """Whether the place of a word 0, or of a kept one, is old behind each call with a word 1."""
    if kept:
        calls = [(known_routine("has"), 0, 1), (routine, 1, 1)]
        question = Question(calls, [0, 1], [], ["cursor"], {0: "yes"})
    else:
        question = Question([(routine, 1, 1)], [0], [], ["cursor"])
    return holds_for_all(question, rule, relation)
