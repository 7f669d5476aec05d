"""Judging: whether what a question asks holds for all trees of a rule and all words."""

from treeshed.checking import are_sets, closed_roots, may_be_judged
from treeshed.closing import Closing, check_asked
from treeshed.copies import as_tuples
from treeshed.errors import TooMany
from treeshed.folding import Fold, Folder
from treeshed.known import known_routine
from treeshed.least import tree_and_pair
from treeshed.questions import ASPECTS, Question, relation_of, unlike_on
from treeshed.rules import Rule
from treeshed.tables import is_table, verdict
from treeshed.trees import Tree
from treeshed.words import is_word

HOLDING = (None, "not asked")
JUDGED_VALUES = (1, 2)


class Alike:
    """That what a question asks holds for all trees, with the tables that show it."""

    def __init__(self, question, rule, relation, value_list, tables):
        self.question = as_tuples(question)
        self.rule = as_tuples(rule)
        self.relation = as_tuples(relation)
        self.value_list = as_tuples(value_list)
        self.tables = as_tuples(tables)


class Unlike:
    """A tree and two words for which an aspect of a question does not hold."""

    def __init__(self, question, rule, relation, tree, pair, how):
        self.question = as_tuples(question)
        self.rule = as_tuples(rule)
        self.relation = as_tuples(relation)
        self.tree = as_tuples(tree)
        self.pair = as_tuples(pair)
        self.how = as_tuples(how)


def judge(question, rule, relation, values):
    """An Alike, or an Unlike with as few places as any has."""
    check_asked(relation, values)
    closing = Closing(Folder(question, rule), relation, values)
    for root in closing.roots():
        how = verdict(closing.fold_of(root))
        if how not in HOLDING:
            tree, pair = tree_and_pair(root, rule, closing.value_list)
            return Unlike(question, rule, relation, tree, pair, how)
    return Alike(question, rule, relation, closing.value_list, closing.all_sets())


def is_alike(paper):
    """Whether the tables of an Alike, with any fields, show what it tells."""
    question, rule = paper.question, paper.rule
    if not isinstance(question, Question) or not isinstance(rule, Rule):
        return False

    def is_told(value, words):
        return is_table(question, value) and value[0] == words

    if not may_be_judged(paper.relation, paper.value_list) or not are_sets(paper.relation, paper.tables, is_told):
        return False
    folder = Folder(question, rule)
    roots = closed_roots(folder, paper.relation, paper.value_list, paper.tables)
    return roots is not None and all_hold(folder, roots)


def all_hold(folder, roots):
    """Whether all holds, or is not asked, at each of these roots, pairs of a cell and the tables below."""
    for cell, lower in roots:
        if verdict(Fold(folder, (0, 1), cell, lower, True)) not in HOLDING:
            return False
    return True


def is_unlike(paper):
    """Whether the tree and the words of an Unlike, with any fields, show what it tells."""
    if not isinstance(paper.question, Question) or not isinstance(paper.rule, Rule):
        return False
    if not isinstance(paper.tree, Tree) or not isinstance(paper.pair, tuple) or len(paper.pair) != 2:
        return False
    if not all([is_word(word, paper.tree.letters) for word in paper.pair]):
        return False
    if relation_of(paper.pair) != paper.relation:
        return False
    try:
        how = unlike_on(paper.question, paper.rule, paper.tree, paper.pair)
    except TooMany:
        return False
    return how in ASPECTS and how == paper.how


def holds_for_all(question, rule, relation):
    """Whether what a question asks holds for all trees and words."""
    return isinstance(judge(question, rule, relation, JUDGED_VALUES), Alike)


def kept_by(routine, rule):
    """Whether behind each call the tree keeps the rule."""
    return holds_for_all(Question([(routine, 0, 1)], [0], [], ["rule"]), rule, "same")


def saves(routine, rule):
    """Whether each call that answers "no" leaves the tree as it was."""
    return holds_for_all(Question([(routine, 0, 1)], [0], [], ["trees"], {0: "no"}), rule, "same")


def undoes(routine, other, rule, kind):
    """Whether a call of other, right behind each call with such an answer, brings the tree back."""
    calls = [(routine, 0, 1), (other, 0, 1)]
    return holds_for_all(Question(calls, [0, 1], [], ["trees"], {0: kind}), rule, "same")


def keeps_cursor(routine, rule, relation, kept):
    """Whether the place of a word 0, or of a kept one, is old behind each call with a word 1."""
    if kept:
        calls = [(known_routine("has"), 0, 1), (routine, 1, 1)]
        question = Question(calls, [0, 1], [], ["cursor"], {0: "yes"})
    else:
        question = Question([(routine, 1, 1)], [0], [], ["cursor"])
    return holds_for_all(question, rule, relation)
