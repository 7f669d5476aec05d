"""Plans judged for all trees of a rule."""

from treeshed.casing import OUTCOMES, Caser
from treeshed.copies import as_tuples
from treeshed.gathering import Gathering, all_sums, three_trees
from treeshed.merging import judged_merge
from treeshed.plans import Plan
from treeshed.rules import Rule
from treeshed.trees import Tree

WRONG = ("words", "rule")


class PlanRight:
    """That no merge by a plan is wrong in a rule, with the cases that show it."""

    def __init__(self, plan, rule, cases):
        self.plan = as_tuples(plan)
        self.rule = as_tuples(rule)
        self.cases = as_tuples(cases)


class PlanWrong:
    """Three trees of a rule whose merge by a plan is wrong."""

    def __init__(self, plan, rule, base, one, other, how):
        self.plan = as_tuples(plan)
        self.rule = as_tuples(rule)
        self.base = as_tuples(base)
        self.one = as_tuples(one)
        self.other = as_tuples(other)
        self.how = as_tuples(how)


def judge_plan(plan, rule):
    """A PlanRight, or a PlanWrong with as few places as any has."""
    gathering = Gathering(plan, rule)
    root = gathering.least_root(is_wrong_case)
    if root is None:
        return PlanRight(plan, rule, sorted([item.told for item in gathering.cases]))
    base, one, other = three_trees(root)
    return PlanWrong(plan, rule, base, one, other, root.told[-1])


def is_wrong_case(case):
    """Whether the merge of a case is wrong."""
    return case[-1] in WRONG


def is_needless_case(case):
    """Whether the merge of a case clashes though no word is changed by both sides."""
    return case[-1] == "clash" and not case[-2]


def needless(plan, rule):
    """The least three trees of the rule whose merge clashes, no word being changed by both sides; None, or a tuple."""
    root = Gathering(plan, rule).least_root(is_needless_case)
    return None if root is None else tuple(three_trees(root))


def is_plan_right(right):
    """Whether the cases of a PlanRight, with any fields, show what it tells."""
    if not isinstance(right.plan, Plan) or not isinstance(right.rule, Rule) or not isinstance(right.cases, tuple):
        return False
    if not all([is_case(case) for case in right.cases]):
        return False
    cases = {case: True for case in right.cases}
    caser = Caser(right.plan, right.rule)
    for total in all_sums(list(cases)):
        if not is_closed_over(caser, cases, total):
            return False
    return True


def is_case(value):
    """Whether any value is of the form of a case."""
    if not isinstance(value, tuple) or len(value) != 9:
        return False
    return all([isinstance(told, bool) for told in value[:8]]) and value[8] in OUTCOMES


def is_closed_over(caser, cases, total):
    """Whether each case over this sum is one of these, and no root over it is wrong."""
    for cells in caser.cells_over(total, False):
        if caser.case(total, cells, False) not in cases:
            return False
    return not any([is_wrong_case(caser.case(total, cells, True)) for cells in caser.cells_over(total, True)])


def is_plan_wrong(wrong):
    """Whether the three trees of a PlanWrong, with any fields, show what it tells."""
    if not isinstance(wrong.plan, Plan) or not isinstance(wrong.rule, Rule):
        return False
    trees = (wrong.base, wrong.one, wrong.other)
    if not all([isinstance(tree, Tree) for tree in trees]):
        return False
    if not wrong.base.letters == wrong.one.letters == wrong.other.letters:
        return False
    if wrong.how not in WRONG or not all([wrong.rule.keeps(tree) for tree in trees]):
        return False
    return judged_merge(wrong.plan, wrong.rule, wrong.base, wrong.one, wrong.other) == wrong.how
