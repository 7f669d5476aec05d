"""Forks: two calls that are done side by side on one tree, and merged."""

from treeshed.answers import kind_of_answer
from treeshed.checking import are_sets, closed_roots, may_be_judged
from treeshed.closing import Closing, check_asked
from treeshed.copies import as_tuples
from treeshed.errors import BadWord, TooMany
from treeshed.folding import Fold
from treeshed.forking import ForkFolder, outcome_of, triple_at
from treeshed.least import tree_and_pair
from treeshed.merging import Clash, merged
from treeshed.plans import Plan
from treeshed.plays import call
from treeshed.questions import Question, relation_of
from treeshed.routines import Routine
from treeshed.rules import Rule
from treeshed.tables import is_index, is_table
from treeshed.trees import Tree
from treeshed.words import is_word

MERGES = ("clash", "none", "other")


class Forks:
    """What forks of two routines come to in all trees of a rule, with the fork tables that show it."""

    def __init__(self, plan, first, second, rule, relation, alike, value_list, rows, tables):
        self.plan = as_tuples(plan)
        self.first = as_tuples(first)
        self.second = as_tuples(second)
        self.rule = as_tuples(rule)
        self.relation = as_tuples(relation)
        self.alike = as_tuples(alike)
        self.value_list = as_tuples(value_list)
        self.rows = as_tuples(rows)
        self.tables = as_tuples(tables)


def fork_question(first, second, alike):
    """The Question of two routines, done in both orders."""
    return Question([(first, 0, 1), (second, 1, 1 if alike else 2)], (0, 1), (1, 0), ())


def fork_on(plan, question, tree, pair):
    """The triple of a fork question on a tree and a pair of words."""
    for index, word in enumerate(pair):
        if not is_word(word, tree.letters):
            raise BadWord(index)
    (routine, which, value), (later, later_which, later_value) = question.calls
    first, one = call(tree, routine, pair[which], value)
    second, other = call(tree, later, pair[later_which], later_value)
    script_one = call(one, later, pair[later_which], later_value)[1]
    script_other = call(other, routine, pair[which], value)[1]
    made = merged(plan, tree, one, other)
    kinds = (kind_of_answer(first), kind_of_answer(second))
    if isinstance(made, Clash):
        return kinds + ("clash",)
    return kinds + (outcome_of(made.tree == script_one, made.tree == script_other),)


def fork_longer(plan, question, rule, words, cell, below):
    """The fork table of a part, told by its cell and the fork tables below."""
    folder = ForkFolder(plan, question, rule)
    return folder.told_over(words, cell, [folder.part_of(told) for told in below])


def fork_whole(plan, question, rule, cell, below):
    """The triple of a fork question, told by the root's cell and the fork tables below."""
    folder = ForkFolder(plan, question, rule)
    return triple_at(Fold(folder, (0, 1), cell, [folder.part_of(told) for told in below], True))


def judge_forks(plan, first, second, rule, relation, alike, values):
    """A Forks, with a tree with as few places as any has for each triple that comes up."""
    check_asked(relation, values)
    closing = Closing(ForkFolder(plan, fork_question(first, second, alike), rule), relation, values)
    rows = {}
    for root in closing.roots():
        triple = triple_at(closing.fold_of(root))
        if triple not in rows:
            rows[triple] = triple + tree_and_pair(root, rule, closing.value_list)
    told = [rows[triple] for triple in sorted(rows)]
    return Forks(plan, first, second, rule, relation, alike, closing.value_list, told, closing.all_sets())


def is_forks(paper):
    """Whether the rows and the fork tables of a Forks, with any fields, show what it tells."""
    if not isinstance(paper.plan, Plan) or not isinstance(paper.rule, Rule) or not isinstance(paper.alike, bool):
        return False
    if not isinstance(paper.first, Routine) or not isinstance(paper.second, Routine):
        return False
    if not may_be_judged(paper.relation, paper.value_list):
        return False
    question = fork_question(paper.first, paper.second, paper.alike)
    if not are_rows(paper, question):
        return False

    def is_told(value, words):
        return is_fork_table(question, value) and value[0][0] == words

    if not are_sets(paper.relation, paper.tables, is_told):
        return False
    folder = ForkFolder(paper.plan, question, paper.rule)
    roots = closed_roots(folder, paper.relation, paper.value_list, paper.tables)
    return roots is not None and all_stand_in(folder, roots, [row[:3] for row in paper.rows])


def are_rows(paper, question):
    """Whether the rows of a Forks are as told, their triples ascending."""
    if not isinstance(paper.rows, tuple) or not all([is_row(paper, question, row) for row in paper.rows]):
        return False
    triples = [row[:3] for row in paper.rows]
    return all([triples[number] < triples[number + 1] for number in range(len(triples) - 1)])


def is_row(paper, question, row):
    """Whether any value is a row of a Forks whose tree and words have its triple."""
    if not isinstance(row, tuple) or len(row) != 5 or not isinstance(row[3], Tree):
        return False
    tree, pair = row[3:]
    if not isinstance(pair, tuple) or len(pair) != 2 or not all([is_word(word, tree.letters) for word in pair]):
        return False
    if relation_of(pair) != paper.relation or not paper.rule.keeps(tree):
        return False
    if not all([value is None or value in paper.value_list for place, value, flag in tree.rows]):
        return False
    try:
        triple = fork_on(paper.plan, question, tree, pair)
    except TooMany:
        return False
    return row[:3] == triple


def is_fork_table(question, value):
    """Whether any value is of the form of a fork table of the question."""
    if not isinstance(value, tuple) or len(value) != 2 or not is_table(question, value[0]):
        return False
    (words, there, entries), merges = value
    many = (3 if 0 in words else 2) * (3 if 1 in words else 2)
    if not isinstance(merges, tuple) or len(merges) != many:
        return False
    return all([is_merge(merge, len(entries)) for merge in merges])


def is_merge(value, many):
    """Whether any value tells what a merge makes of a part with so many stories."""
    if not isinstance(value, tuple) or len(value) not in (1, 2):
        return False
    if len(value) == 1:
        return value[0] in MERGES
    return value[0] == "as" and is_index(value[1], 0, many)


def all_stand_in(folder, roots, triples):
    """Whether the triple of each of these roots, pairs of a cell and the fork tables below, is among these."""
    for cell, lower in roots:
        if triple_at(Fold(folder, (0, 1), cell, lower, True)) not in triples:
            return False
    return True
