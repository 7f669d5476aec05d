"""Promises 23, 24 and 50: cases of three parts, their sums, and how they follow from what is below."""

import itertools
import unittest

from tests.drawing import rule_around, some_tree
from tests.helpers import KINDS, alike, any_values, check_raises, seeded
from tests.merges import case_at, due, some_plan, some_side
from tests.test_merging import some_three, two_wide_sides
from treeshed.errors import NoPlace, OtherLetters
from treeshed.merging import judged_merge
from treeshed.plans import Plan, known_plan
from treeshed.rules import Rule, known_rule
from treeshed.trees import Tree
from treeshed.triples import added, case_of, closed, empty_sum

PLAIN, FREE = known_rule("plain"), known_rule("free")
SETS = known_plan("sets")
OUTCOMES = ("none", "tree", "rule", "words", "clash")
EMPTY = (0, 0, 0, 0, True, True, False, False, False, "right")
CELLS = [None] + list(itertools.product((None, 1, 2, 3), (False, True)))


def some_case(source):
    """Any nine-tuple of the form of a case."""
    return tuple(source.random() < 0.5 for _ in range(8)) + (source.choice(OUTCOMES),)


def sum_of(cases):
    """The sum of cases, as [23] tells it."""
    worst = "right"
    for outcome in ("rule", "words", "clash"):
        if outcome in [case[8] for case in cases]:
            worst = outcome
    made = [case for case in cases if case[8] in ("tree", "rule", "words")]
    return tuple([min(2, sum(case[at] for case in cases)) for at in range(3)] + [min(2, len(made))]
                 + [all(case[at] for case in cases) for at in (3, 4)]
                 + [any(case[at] for case in cases) for at in (5, 6, 7)] + [worst])


def told_case(plan, rule, total, cells, root):
    """What [24] says of three cells over a sum, once more."""
    there = tuple(cell is not None for cell in cells)
    kinds = rule.root if root else rule.others
    for cell, children in zip(cells, total):
        if cell is None and (root or children) or cell and (cell[0] is not None, cell[1], children) not in kinds:
            return None
    if not any(there):
        return None
    values = [cell and cell[0] for cell in cells]
    same, alike_with = [], []
    for side in (1, 2):
        both_missing = not there[0] and not there[side]
        same.append(both_missing or there[0] and there[side] and cells[0] == cells[side] and total[3 + side])
        alike_with.append(values[0] == values[side] and values[0] is not None or total[5 + side])
    both = values[0] != values[1] and values[0] != values[2] or total[8]
    outcome = told_outcome(plan, kinds, total, cells, root, same, alike_with, values)
    return there + tuple(same) + tuple(alike_with) + (both, outcome)


def told_outcome(plan, kinds, total, cells, root, same, alike_with, values):
    """The outcome, by the numbers of [21]."""
    base, one, other = cells
    if same[0]:
        return "tree" if other else "none"
    if same[1]:
        return "tree" if one else "none"
    if not one and not other:
        return "clash" if plan.alike == "clash" else "none"
    counted = {"base": base, "one": one, "other": other}
    if base and not (one and other):
        if plan.gone == "clash":
            return "clash"
        if plan.gone == "kept":
            return "words" if alike_with[0 if one else 1] else "tree"
        counted["one" if not one else "other"] = (None, False) if plan.gone == "bare" else base
    if not base:
        counted["base"] = (None, False)
    was, first, second = [counted[name][0] for name in ("base", "one", "other")]
    told = due(was, first, second)
    if first == second != was and plan.alike == "clash" or len(told) == 2 and plan.unlike == "clash":
        return "clash"
    if total[9] == "clash":
        return "clash"
    value = told[0 if plan.unlike == "one" else -1]
    if plan.tidy and not root and value is None and total[3] == 0:
        return "none"
    if total[9] == "words" or value not in due(*values):
        return "words"
    flag = counted["other" if counted["one"][1] == counted["base"][1] else "one"][1]
    if plan.flags is not None:
        flag = plan.flags[(root, value is not None, total[3])]
    return "rule" if total[9] == "rule" or (value is not None, flag, total[3]) not in kinds else "tree"


def places_of(trees):
    """All places of some trees, the lower ones first."""
    return sorted({row[0] for tree in trees for row in tree.rows}, key=len, reverse=True)


class SessionTest(unittest.TestCase):
    def test_the_session(self):
        base = Tree("ab", [("", None, False), ("a", 1, False)])
        one = Tree("ab", [("", None, False), ("b", 2, False)])
        other = Tree("ab", [("", None, False), ("a", 1, False), ("ab", 3, False)])
        low = case_of(SETS, PLAIN, base, one, other, "ab")
        self.assertTrue(alike(low, (False, False, True, True, False, False, False, False, "tree")))
        self.assertEqual(closed(SETS, PLAIN, empty_sum(), (None, None, (3, False))), low)
        total = added(empty_sum(), low)
        self.assertTrue(alike(total, (0, 0, 1, 1, True, False, False, False, False, "right")))
        high = closed(SETS, PLAIN, total, ((1, False), None, (1, False)))
        self.assertTrue(alike(high, (True, False, True, False, False, False, True, False, "tree")))
        self.assertEqual(case_of(SETS, PLAIN, base, one, other, "a"), high)


class CaseOfTest(unittest.TestCase):
    def test_drawn_trees(self):
        source = seeded(211)
        found = {}
        for _ in range(1200):
            plan, trees = some_plan(source), some_three(source)
            rule = Rule(source.sample(KINDS, 9), source.sample(KINDS, 9))
            for place in places_of(trees):
                told = case_of(plan, rule, *trees, place)
                self.assertTrue(alike(told, case_at(plan, rule, *trees, place)))
                found[told] = True
        self.assertEqual({told[8] for told in found}, set(OUTCOMES))
        self.assertGreater(len(found), 80)

    def test_the_root_is_what_judged_merge_tells(self):
        source = seeded(212)
        for _ in range(300):
            plan, trees = some_plan(source), some_three(source)
            rule = Rule(source.sample(KINDS, 9), source.sample(KINDS, 9))
            told = {"tree": "right"}.get(case_of(plan, rule, *trees, "")[8], case_of(plan, rule, *trees, "")[8])
            self.assertEqual(told, judged_merge(plan, rule, *trees))

    def test_a_part_by_itself(self):
        # The root clashes, the part at a does not; it is bare, which the root may be, but not a.
        base = Tree("ab", [("", 1, False), ("a", 1, False)])
        one, other = Tree("ab", [("", 2, False), ("a", None, False)]), Tree("ab", [("", 3, False), ("a", 1, True)])
        rule = Rule([(False, True, 0)], [(False, False, 0)])
        self.assertEqual(case_of(SETS, rule, base, one, other, "")[8], "clash")
        self.assertEqual(case_of(SETS, rule, base, one, other, "a")[8], "none")
        untidy = Plan("bare", "take", "clash", False)
        self.assertEqual(case_of(untidy, rule, base, one, other, "a")[8], "rule")

    def test_errors(self):
        source = seeded(213)
        tree = some_tree(source, "ab", 5)
        side = some_side(source, tree, 3)
        there = {row[0] for told in (tree, side) for row in told.rows}
        for place in ["c", "A", "aaaaaaa", "a" * 201] + any_values():
            if not isinstance(place, str) or place not in there:
                check_raises(self, NoPlace, {"place": place}, case_of, SETS, PLAIN, tree, side, side, place)
            for letters in (("ba", "ab", "ab"), ("ab", "ba", "ab"), ("ab", "ab", "abc")):
                trees = [Tree(told, tree.rows) for told in letters]
                check_raises(self, OtherLetters, {}, case_of, SETS, PLAIN, *trees, place)

    def test_a_place_of_any_of_the_three(self):
        for number in range(3):
            trees = [Tree("ab", [("", None, False)]) for _ in range(3)]
            trees[number] = Tree("ab", [("", None, False), ("b", 1, False)])
            told = case_of(SETS, FREE, *trees, "b")
            self.assertEqual(told[:3], tuple(at == number for at in range(3)))

    def test_no_place_too_many(self):
        base = Tree("abcdefghijkl", [("", None, False)])
        for many in (1000, 1100):
            told = case_of(SETS, FREE, base, *two_wide_sides(1000, many), "")
            self.assertEqual(told, (True, True, True, False, False, False, False, False, "tree"))


class SumTest(unittest.TestCase):
    def test_the_empty_sum(self):
        self.assertTrue(alike(empty_sum(), EMPTY))

    def test_sums_of_any_cases(self):
        source = seeded(214)
        for _ in range(1500):
            cases = [some_case(source) for _ in range(source.randint(0, 5))]
            total = empty_sum()
            for case in cases:
                total = added(total, case)
            self.assertTrue(alike(total, sum_of(cases)))

    def test_each_outcome(self):
        start = added(EMPTY, (True,) * 8 + ("none",))
        self.assertTrue(alike(start, (1, 1, 1, 0, True, True, True, True, True, "right")))
        worse = ["none", "tree", "rule", "words", "clash"]
        for first, second in itertools.product(worse, worse):
            total = added(added(EMPTY, (False,) * 8 + (first,)), (False,) * 8 + (second,))
            worst = max(first, second, key=worse.index)
            made = len([outcome for outcome in (first, second) if outcome in ("tree", "rule", "words")])
            told = (0, 0, 0, made, False, False, False, False, False, worst if worst in worse[2:] else "right")
            self.assertTrue(alike(total, told))


class ClosedTest(unittest.TestCase):
    def test_the_cases_of_the_children_give_the_case(self):
        source = seeded(215)
        found = {}
        for _ in range(1200):
            plan, trees = some_plan(source), some_three(source, 10)
            rules = [rule_around(source, tree) for tree in trees]
            rule = Rule(sorted({kind for told in rules for kind in told.root}),
                        sorted({kind for told in rules for kind in told.others}))
            for place in places_of(trees):
                cells = tuple(tree.row(place)[1:] if tree.has(place) else None for tree in trees)
                total = empty_sum()
                for letter in trees[0].letters:
                    if any(tree.has(place + letter) for tree in trees):
                        total = added(total, case_of(plan, rule, *trees, place + letter))
                told = closed(plan, rule, total, cells, place == "")
                self.assertTrue(alike(told, case_of(plan, rule, *trees, place)), (cells, total))
                found[told] = True
        self.assertEqual({told[8] for told in found}, set(OUTCOMES))
        self.assertGreater(len(found), 80)

    def test_any_sums_and_cells(self):
        source = seeded(216)
        none = 0
        for _ in range(12000):
            plan = some_plan(source)
            kinds = [source.sample(KINDS, source.choice([6, 11, 12])) for _ in range(2)]
            total = sum_of([some_case(source) for _ in range(source.choice([0, 0, 1, 1, 2, 3]))])
            cells = tuple(source.choice(CELLS) for _ in range(3))
            root = source.random() < 0.4
            told = closed(plan, Rule(*kinds), total, cells, root)
            self.assertTrue(alike(told, told_case(plan, Rule(*kinds), total, cells, root)), (total, cells, root))
            none += told is None
        self.assertGreater(none, 1000)
        self.assertLess(none, 10000)

    def test_where_there_is_none_such(self):
        leaf, total = (1, False), added(EMPTY, (True, False, False) + (False,) * 5 + ("tree",))
        self.assertIsNone(closed(SETS, FREE, EMPTY, (None, None, None)))
        self.assertIsNone(closed(SETS, FREE, EMPTY, (None, None, None), True))
        for cells in ((None, leaf, leaf), (leaf, None, leaf), (leaf, leaf, None)):
            self.assertIsNone(closed(SETS, FREE, EMPTY, cells, True))
            self.assertIsNotNone(closed(SETS, FREE, EMPTY, cells, False))
        self.assertIsNone(closed(SETS, FREE, total, (None, leaf, leaf)))
        self.assertIsNotNone(closed(SETS, FREE, total, (leaf, None, leaf)))
        for children in range(3):
            for kinds in ([(True, False, children)], []):
                rule = Rule(kinds, kinds)
                total = (children, 0, 0, 0) + EMPTY[4:]
                for root in (False, True):
                    cells = (leaf, (2, False), (3, False)) if root else (leaf, None, None)
                    rooted = Rule(rule.root + ((True, False, 0),) * (children > 0 and root), rule.others)
                    told = closed(SETS, rooted, total, cells, root)
                    self.assertIs(told is None, kinds == [])

    def test_the_root_has_kinds_of_its_own(self):
        cells = ((1, False),) * 3
        for root in (False, True):
            for rule in (Rule([(True, False, 0)], []), Rule([], [(True, False, 0)])):
                told = closed(SETS, rule, EMPTY, cells, root)
                self.assertIs(told is None, (rule.root == ()) == root)
        self.assertEqual(closed(SETS, Rule([], [(True, False, 0)]), EMPTY, cells),
                         closed(SETS, Rule([], [(True, False, 0)]), EMPTY, cells, False))
