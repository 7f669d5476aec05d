"""Promises 22 to 24 and 51: plans judged for all trees of a rule, and clashes that are not needed."""

import itertools
import unittest
import unittest.mock

from tests.drawing import rule_of_few, three_of
from tests.helpers import KINDS, alike, any_values, check_raises, seconds_of, seeded, shuffled, some_letters, tupled
from tests.merges import ALIKE, GONE, UNLIKE, exchanged, some_exact_rule, some_plan
from tests.test_merging import two_wide_sides
from treeshed.errors import TooMany
from treeshed.merging import Clash, due, judged_merge, merged
from treeshed.planned import PlanRight, PlanWrong, is_plan_right, is_plan_wrong, judge_plan, needless
from treeshed.plans import Plan, known_plan, with_flags
from treeshed.rules import Rule, all_trees, flags_of, known_rule
from treeshed.trees import Tree
from treeshed.triples import added, case_of, closed, empty_sum

PLAIN, FREE, BARE, JOINED = [known_rule(name) for name in ("plain", "free", "bare", "joined")]
SETS, CAREFUL, LATE, BACK = [known_plan(name) for name in ("sets", "careful", "late", "back")]
# Cells with all values, and with None or 1, 2, 3 as they come first: these are enough.
SOME_CELLS = [None] + list(itertools.product((None, 1, 2, 3), (False, True)))
FEW_CELLS = [cells for cells in itertools.product(SOME_CELLS, repeat=3) if [
    value for value in dict.fromkeys(cell[0] for cell in cells if cell) if value] in ([], [1], [1, 2], [1, 2, 3])]


def let_cells(kinds, children, root):
    """The triples of cells that may stand over so many children; closed tells None of all others."""
    def is_let(cell, many):
        return not root and not many if cell is None else (cell[0] is not None, cell[1], many) in kinds
    return [cells for cells in FEW_CELLS if all(map(is_let, cells, children)) and any(cells)]


def all_closed(plan, rule):
    """The cases and the sums, found by closed and added alone, and all cases at roots."""
    few = {(children, root): let_cells(rule.root if root else rule.others, children, root)
           for children in itertools.product(range(3), repeat=3) for root in (False, True)}
    cases, sums, waiting, roots = {}, {empty_sum(): True}, [empty_sum()], {}
    while waiting:
        total = waiting.pop()
        for cells in few[total[:3], False]:
            case = closed(plan, rule, total, cells)
            if case not in cases:
                cases[case] = True
                waiting = list(sums)
        for cells in few[total[:3], True]:
            roots[closed(plan, rule, total, cells, True)] = True
        for case in cases:
            more = added(total, case)
            if more not in sums:
                sums[more] = True
                waiting.append(more)
    return cases, sums, roots


def fewest_places(plan, rule, cases, sums):
    """How many places the least wrong root has, and the least one that clashes needlessly; None if there is none."""
    many = {total: 0 if total == empty_sum() else 10 ** 6 for total in sums}
    kinds = {root: rule.root if root else rule.others for root in (False, True)}
    told = {(total, root): {(closed(plan, rule, total, cells, root), 3 - cells.count(None))
                            for cells in let_cells(kinds[root], total[:3], root)}
            for total in sums for root in (False, True)}
    sum_of = {(total, case): added(total, case) for total in sums for case in cases}
    before = None
    while before != many:
        before = dict(many)
        least = {case: 10 ** 6 for case in cases}
        for total in sums:
            for case, tops in told[total, False]:
                least[case] = min(least[case], many[total] + tops)
        for (total, case), more in sum_of.items():
            many[more] = min(many[more], many[total] + least[case])
    wrong = [many[total] + 3 for total in sums for case, _ in told[total, True] if case[8] in ("words", "rule")]
    clashing = [many[total] + 3 for total in sums for case, _ in told[total, True]
                if case[8] == "clash" and not case[7]]
    return min(wrong, default=None), min(clashing, default=None)


def small_triples(rule, letters, total, values):
    """All three trees of the rule with so many places together."""
    trees = {size: all_trees(rule, letters, size, values) for size in range(1, total - 1)}
    for first, second in itertools.product(range(1, total - 1), repeat=2):
        if total - first - second >= 1:
            yield from itertools.product(trees[first], trees[second], trees[total - first - second])


def changed_by_both(base, one, other):
    """Whether some word is changed by both sides."""
    words = {row[0] for tree in (base, one, other) for row in tree.rows}
    return any(one.value_of(word) != base.value_of(word) != other.value_of(word) for word in words)


def is_needless(plan, trees):
    """Whether the merge of three trees clashes, no word being changed by both."""
    return isinstance(merged(plan, *trees), Clash) and not changed_by_both(*trees)


def sizes(trees):
    """How many places three trees have together."""
    return sum(tree.size for tree in trees)


def trees_of(wrong):
    """The three trees of a PlanWrong."""
    return wrong.base, wrong.one, wrong.other


def all_plans(flags=(None,)):
    """All plans with these flags."""
    return [Plan(*fields) for fields in itertools.product(GONE, ALIKE, UNLIKE, (True, False), flags)]


class SessionTest(unittest.TestCase):
    def test_the_session(self):
        right, wrong = judge_plan(SETS, PLAIN), judge_plan(BACK, PLAIN)
        low = case_of(SETS, PLAIN, *[Tree("ab", [("", None, False)])] * 2, Tree.of("ab", [("ab", 3)]), "ab")
        told = [low in right.cases, is_plan_right(right), wrong.how, is_plan_wrong(wrong)]
        self.assertTrue(alike(told, [True, True, "words", True]))
        self.assertEqual([sizes(trees_of(wrong)), sizes(needless(CAREFUL, PLAIN))], [6, 6])
        self.assertIsNone(needless(SETS, PLAIN))


class JudgePlanTest(unittest.TestCase):
    def check(self, source, plan, rule):
        """Checks a paper against drawn trees; the paper."""
        paper = judge_plan(plan, rule)
        self.assertEqual([paper.plan, paper.rule], [plan, rule])
        letters = some_letters(source, source.choice([2, 2, 3]))
        for _ in range(12):
            trees = three_of(source, rule, letters)
            if trees is None:
                break
            how = judged_merge(plan, rule, *trees)
            if isinstance(paper, PlanRight):
                self.assertIn(how, ("right", "clash"))
                places = {row[0] for tree in trees for row in tree.rows} - {""}
                for place in places:
                    self.assertIn(case_of(plan, rule, *trees, place), paper.cases)
            elif how in ("words", "rule"):
                self.assertLessEqual(sizes(trees_of(paper)), sizes(trees))
        if isinstance(paper, PlanRight):
            self.assertIs(is_plan_right(paper), True)
            self.assertTrue(alike(paper.cases, tuple(sorted(paper.cases))))
        else:
            self.assertIs(is_plan_wrong(paper), True)
            self.assertTrue(all(rule.keeps(tree) for tree in trees_of(paper)))
            self.assertEqual(len({tree.letters for tree in trees_of(paper)}), 1)
            self.assertEqual(judged_merge(plan, rule, *trees_of(paper)), paper.how)
            self.assertIn(paper.how, ("words", "rule"))
        return paper

    def test_all_plans_in_known_rules(self):
        source = seeded(221)
        many = {PlanRight: 0, PlanWrong: 0}
        for plan in all_plans():
            many[self.check(source, plan, source.choice([PLAIN, BARE, FREE, JOINED])).__class__] += 1
        for rule in (PLAIN, JOINED):
            for plan in all_plans((flags_of(rule),))[::5]:
                many[self.check(source, plan, rule).__class__] += 1
        self.assertGreater(min(many.values()), 5)

    def test_drawn_plans_and_rules(self):
        source = seeded(222)
        many = {PlanRight: 0, PlanWrong: 0}
        for _ in range(40):
            many[self.check(source, some_plan(source), rule_of_few(source)).__class__] += 1
        self.assertGreater(min(many.values()), 5)

    def test_plans_as_asked_are_right(self):
        source = seeded(223)
        for _ in range(20):
            rule = some_exact_rule(source)
            plan = with_flags(Plan("bare", source.choice(ALIKE), source.choice(UNLIKE), True), rule)
            self.assertIsInstance(judge_plan(plan, rule), PlanRight)
        for alike_both, unlike in itertools.product(ALIKE, UNLIKE):
            self.assertIsInstance(judge_plan(Plan("bare", alike_both, unlike, True), PLAIN), PlanRight)

    def test_the_cases_and_the_verdict_by_closed_and_added_alone(self):
        source = seeded(224)
        plans = [(SETS, PLAIN), (BACK, PLAIN), (known_plan("late"), PLAIN), (SETS, JOINED)]
        plans += [(some_plan(source), Rule(source.sample(KINDS, 4), source.sample(KINDS, 4))) for _ in range(5)]
        # Rules of ends alone: each three values at one place show cases that nothing else shows.
        for others in ([(True, False, 0)], [(True, False, 0), (False, False, 0)], [(True, True, 0), (True, False, 0)]):
            for root in ([(True, False, 0), (False, False, 0)], [(True, False, 2)],
                         [(False, False, 1), (True, True, 1)]):
                plans += [(plan, Rule(root, others)) for plan in (SETS, CAREFUL, LATE, BACK, some_plan(source))]
        for plan, rule in plans:
            cases, _, roots = all_closed(plan, rule)
            paper = judge_plan(plan, rule)
            wrong = [case for case in roots if case[8] in ("words", "rule")]
            self.assertIs(isinstance(paper, PlanWrong), len(wrong) > 0)
            if not wrong:
                self.assertTrue(alike(paper.cases, tuple(sorted(cases))))
            trees = needless(plan, rule)
            self.assertIs(trees is None, not any(case[8] == "clash" and not case[7] for case in roots))

    def test_the_fewest_places_by_closed_and_added_alone(self):
        source = seeded(230)
        many = {}
        plans = [(BACK, PLAIN), (CAREFUL, PLAIN), (SETS, JOINED)]
        # Here places that all three have, or that each has alone, cost alike if they are counted wrong.
        for fields, root, others in (
            (("bare", "take", "one", False), [(False, False, 2), (False, True, 1)],
             [(False, True, 0), (False, True, 2)]),
            (("bare", "take", "clash", False), [(True, False, 1), (True, True, 2)],
             [(False, False, 0), (False, True, 1)]),
            (("base", "take", "clash", False), [(False, False, 1), (False, True, 1), (True, True, 2)],
             [(False, False, 1), (False, True, 0)]),
        ):
            plans.append((Plan(*fields), Rule(root, others)))
        for number in range(22):
            rule = Rule(source.sample(KINDS, 3), source.sample(KINDS, source.choice([2, 3, 4])))
            plans.append((some_plan(source), rule))
        for plan, rule in plans:
            cases, sums, _ = all_closed(plan, rule)
            if len(sums) > 400:
                continue
            paper, trees = judge_plan(plan, rule), needless(plan, rule)
            told = (sizes(trees_of(paper)) if isinstance(paper, PlanWrong) else None, trees and sizes(trees))
            self.assertEqual(told, fewest_places(plan, rule, cases, sums))
            many[told] = many.get(told, 0) + 1
        self.assertGreater(len(many), 5)

    def test_no_small_trees_are_wrong_with_fewer_places(self):
        source = seeded(225)
        least = {}
        rules = [PLAIN, FREE, BARE, JOINED]
        for number in range(16):
            plan = some_plan(source)
            rule = rules[number % 4] if number < 8 else Rule(source.sample(KINDS, 8), source.sample(KINDS, 5))
            paper, trees = judge_plan(plan, rule), needless(plan, rule)
            few = 9 if isinstance(paper, PlanRight) else sizes(trees_of(paper))
            fewest = 9 if trees is None else sizes(trees)
            for total in range(3, 6):
                if total >= max(few, fewest) or (total == 5 and rule in (FREE, BARE)):
                    break
                for told in small_triples(rule, "ab", total, [1, 2]):
                    if total < few:
                        self.assertIn(judged_merge(plan, rule, *told), ("right", "clash"))
                    if total < fewest:
                        self.assertFalse(is_needless(plan, told))
            least[few] = least.get(few, 0) + 1
        self.assertGreater(len(least), 3)

    def test_the_places_of_the_session_are_fewest(self):
        for total in (3, 4, 5):
            for trees in small_triples(PLAIN, "ab", total, [1, 2]):
                self.assertIn(judged_merge(BACK, PLAIN, *trees), ("right", "clash"))
                self.assertFalse(is_needless(CAREFUL, trees))

    def test_many_children_may_be_needed(self):
        # Only a root with two children and one of them gone shows that its flag is wrong.
        rule = Rule([(False, False, 2), (False, False, 0), (False, True, 1)], [(True, False, 0)])
        paper = judge_plan(Plan("bare", "take", "clash", True), rule)
        self.assertEqual([paper.how, is_plan_wrong(paper)], ["rule", True])
        self.assertIsInstance(judge_plan(with_flags_of(rule, (True, False, 1)), rule), PlanRight)

    def test_an_empty_rule(self):
        paper = judge_plan(BACK, Rule([], []))
        self.assertTrue(alike(paper.cases, ()))
        self.assertIs(is_plan_right(paper), True)
        self.assertIsNone(needless(CAREFUL, Rule([], [])))
        paper = judge_plan(SETS, Rule([], [(True, False, 0)]))
        self.assertGreater(len(paper.cases), 5)
        self.assertIs(is_plan_right(paper), True)

    def test_known_plans_in_known_rules_are_soon_judged(self):
        for plan, rule in itertools.product((SETS, CAREFUL, LATE, BACK), (PLAIN, JOINED, BARE, FREE)):
            self.assertLess(seconds_of(judge_plan, plan, rule), 3)
            self.assertLess(seconds_of(needless, plan, rule), 3)
            paper = judge_plan(plan, rule)
            self.assertLess(seconds_of(is_plan_right if isinstance(paper, PlanRight) else is_plan_wrong, paper), 3)

    def test_equal_calls_are_equal(self):
        source = seeded(226)
        for _ in range(10):
            plan, rule = some_plan(source), rule_of_few(source)
            same = Plan(plan.gone, plan.alike, plan.unlike, plan.tidy, plan.flags)
            first, second = judge_plan(plan, rule), judge_plan(same, Rule(list(rule.root), list(rule.others)))
            self.assertIs(first.__class__, second.__class__)
            if isinstance(first, PlanRight):
                self.assertTrue(alike(first.cases, second.cases))
            else:
                self.assertEqual([trees_of(first), first.how], [trees_of(second), second.how])
            self.assertEqual(needless(plan, rule), needless(same, rule))
            turned = judge_plan(exchanged(plan), rule)
            self.assertIs(first.__class__, turned.__class__)


def with_flags_of(rule, *keys):
    """The plan sets with flags at these keys alone."""
    flags = {key: key in keys for key in itertools.product((False, True), (False, True), range(3))}
    return Plan("bare", "take", "clash", True, flags)


class NeedlessTest(unittest.TestCase):
    def test_all_plans(self):
        source = seeded(227)
        found = 0
        for plan in all_plans():
            rule = source.choice([PLAIN, BARE, JOINED, FREE])
            trees = needless(plan, rule)
            if trees is None:
                for _ in range(20):
                    self.assertFalse(is_needless(plan, three_of(source, rule, "ab")))
                continue
            found += 1
            self.assertIs(trees.__class__, tuple)
            self.assertTrue(all(rule.keeps(tree) for tree in trees))
            self.assertEqual(len({tree.letters for tree in trees}), 1)
            self.assertTrue(is_needless(plan, trees))
            for word in {row[0] for tree in trees for row in tree.rows}:
                self.assertEqual(len(due(*trees, word)), 1)
        self.assertGreater(found, 10)
        self.assertLess(found, 40)

    def test_a_word_that_both_change_alike_is_no_needless_clash(self):
        # The clash is at the word itself, which both sides have struck.
        plan = Plan("bare", "clash", "clash", True)
        gone = [PLAIN.tree_of("ab", items) for items in ([("a", 1)], [], [])]
        self.assertEqual(merged(plan, *gone).place, "a")
        self.assertFalse(is_needless(plan, gone))
        trees = needless(plan, PLAIN)
        self.assertIsNone(trees)


class TooManyTest(unittest.TestCase):
    FIELDS = {"what": "sums", "many": 2001, "most": 2000}

    def test_just_as_many_as_there_may_be(self):
        for plan, rule in ((SETS, PLAIN), (BACK, PLAIN), (CAREFUL, JOINED)):
            many = len(all_closed(plan, rule)[1])
            paper = judge_plan(plan, rule)
            with unittest.mock.patch("treeshed.gathering.MOST_SUMS", many):
                self.assertIs(judge_plan(plan, rule).__class__, paper.__class__)
                needless(plan, rule)
                self.assertIs(isinstance(paper, PlanWrong) or is_plan_right(paper), True)
            with unittest.mock.patch("treeshed.gathering.MOST_SUMS", many - 1):
                fields = {"what": "sums", "many": many, "most": many - 1}
                check_raises(self, TooMany, fields, judge_plan, plan, rule)
                check_raises(self, TooMany, fields, needless, plan, rule)
                if isinstance(paper, PlanRight):
                    check_raises(self, TooMany, fields, is_plan_right, paper)

    def test_papers_with_very_many_sums(self):
        cases = [case + (outcome,) for case in itertools.product((False, True), repeat=8) for outcome in (
            "none", "tree", "rule", "words", "clash")]
        check_raises(self, TooMany, self.FIELDS, is_plan_right, PlanRight(SETS, PLAIN, cases))
        # Ahead of all else: no case that is asked for is there, and a root is wrong.
        few = [case for case in cases if sum(case[:8]) <= 1]
        check_raises(self, TooMany, self.FIELDS, is_plan_right, PlanRight(BACK, FREE, few * 3))
        # Not ahead of fields that are not as described.
        self.assertIs(is_plan_right(PlanRight(SETS, PLAIN, cases + [cases[0][:8]])), False)
        self.assertIs(is_plan_right(PlanRight(None, PLAIN, cases)), False)
        self.assertIs(is_plan_right(PlanRight(SETS, None, cases)), False)

    def test_about_2000_sums(self):
        # Cases that set one of these each: three numbers to 0, 1 or 2, results and worst, some of six bools.
        def case(*places, outcome="none"):
            told = [at in (3, 4) for at in range(8)]
            for at in places:
                told[at] = not told[at]
            return tuple(told) + (outcome,)
        base = [case(0), case(1), case(2), case(3), case(4), case(5), case(6), case(7)]
        # 3 * 3 * 3 * 2 ** 5 sums, each with results 0, 1 or 2; then, with the worst outcome, twice as many.
        for cases, many in ((base, 864), (base + [case(outcome="clash")], 1728), (base + [case(outcome="tree")], 2592)):
            paper = PlanRight(SETS, PLAIN, cases)
            if many > 2000:
                check_raises(self, TooMany, self.FIELDS, is_plan_right, paper)
            else:
                with unittest.mock.patch("treeshed.gathering.MOST_SUMS", many):
                    self.assertIs(is_plan_right(paper), False)
                with unittest.mock.patch("treeshed.gathering.MOST_SUMS", many - 1):
                    fields = {"what": "sums", "many": many, "most": many - 1}
                    check_raises(self, TooMany, fields, is_plan_right, paper)

    def test_wrong_papers_that_cannot_be_merged(self):
        base = Tree("abcdefghijkl", [("", None, False)])
        sides = two_wide_sides(1100, 1100)
        fields = {"what": "places", "many": 2201, "most": 2000}
        check_raises(self, TooMany, fields, is_plan_wrong, PlanWrong(SETS, BARE, base, *sides, "words"))
        self.assertIs(is_plan_wrong(PlanWrong(SETS, Rule([], []), base, *sides, "words")), False)
        self.assertIs(is_plan_wrong(PlanWrong(SETS, BARE, base, *sides, "right")), False)


class PlanRightTest(unittest.TestCase):
    def test_cases_in_any_order_and_twice(self):
        source = seeded(228)
        for plan, rule in ((SETS, PLAIN), (LATE, BARE), (CAREFUL, PLAIN)):
            cases = judge_plan(plan, rule).cases
            for told in (cases[::-1], cases + cases[:5], list(cases) * 2, shuffled(source, cases)):
                self.assertIs(is_plan_right(PlanRight(plan, rule, told)), True)

    def test_a_case_left_out(self):
        for plan, rule in ((SETS, PLAIN), (LATE, BARE), (CAREFUL, PLAIN)):
            cases = judge_plan(plan, rule).cases
            for at in range(len(cases)):
                self.assertIs(is_plan_right(PlanRight(plan, rule, cases[:at] + cases[at + 1:])), False)
            self.assertIs(is_plan_right(PlanRight(plan, rule, ())), False)

    def test_a_case_bent(self):
        source = seeded(229)
        cases = judge_plan(SETS, PLAIN).cases
        for at, case in enumerate(cases):
            for _ in range(4):
                field = source.randint(0, 8)
                told = "none" if field == 8 and case[8] != "none" else "tree" if field == 8 else not case[field]
                bent = case[:field] + (told,) + case[field + 1:]
                self.assertIs(is_plan_right(PlanRight(SETS, PLAIN, cases[:at] + (bent,) + cases[at + 1:])), False)

    def test_more_cases_if_what_they_ask_is_there(self):
        # What comes up in bare comes up in a rule of more kinds; the other way round some are missing.
        few, more = judge_plan(SETS, PLAIN).cases, judge_plan(SETS, BARE).cases
        self.assertLess(set(few), set(more))
        self.assertIs(is_plan_right(PlanRight(SETS, PLAIN, more)), True)
        self.assertIs(is_plan_right(PlanRight(SETS, BARE, few)), False)
        # Cases that no three parts have: nothing is there, and yet alike, so no new case comes from them.
        none = (False, False, False, True, True, False, False, False, "none")
        self.assertIs(is_plan_right(PlanRight(SETS, PLAIN, few + (none,))), True)
        for outcome in ("right", "None", "", "nothing", None, 0, ("none",)):
            self.assertIs(is_plan_right(PlanRight(SETS, PLAIN, few + (none[:8] + (outcome,),))), False)

    def test_a_wrong_root(self):
        cases, _, _ = all_closed(BACK, PLAIN)
        self.assertIs(is_plan_right(PlanRight(BACK, PLAIN, list(cases))), False)
        # Its cases are closed: it is only at the root that some are wrong.
        rule = Rule([(False, False, 0)], PLAIN.others)
        cases, _, roots = all_closed(BACK, rule)
        self.assertFalse([case for case in roots if case[8] in ("words", "rule")])
        self.assertIs(is_plan_right(PlanRight(BACK, rule, list(cases))), True)
        self.assertIs(is_plan_right(PlanRight(BACK, PLAIN, list(cases))), False)

    def test_the_root_has_flags_and_kinds_of_its_own(self):
        cases = judge_plan(SETS, PLAIN).cases
        self.assertIs(is_plan_right(PlanRight(with_flags_of(PLAIN), PLAIN, cases)), True)
        for key in flags_of(PLAIN):
            # A flag at the root is wrong there alone, one at other places asks for other cases.
            plan = with_flags_of(PLAIN, key)
            told = judge_plan(plan, PLAIN)
            self.assertIs(is_plan_right(PlanRight(plan, PLAIN, cases)), isinstance(told, PlanRight), key)
            self.assertIs(isinstance(told, PlanRight), key == (False, False, 0), key)
        rule = Rule([kind for kind in PLAIN.root if kind != (True, False, 2)], PLAIN.others)
        self.assertIs(is_plan_right(PlanRight(SETS, rule, cases)), False)
        self.assertEqual(judge_plan(SETS, rule).how, "rule")

    def test_any_fields(self):
        cases = judge_plan(SETS, PLAIN).cases
        fields = [SETS, PLAIN, cases]
        for number in range(3):
            for value in any_values() + [SETS.gone, cases[0], [cases], {case: True for case in cases}, PLAIN, SETS]:
                told = fields[:number] + [value] + fields[number + 1:]
                if isinstance(told[0], Plan) and isinstance(told[1], Rule) and number < 2:
                    continue
                self.assertIs(is_plan_right(PlanRight(*told)), False, (number, value))
        case = cases[0]
        wrong = [case[:8], case + (True,), list(case[:8]) + ["right"], case[:8] + ("Tree",), case[:8] + (None,),
                 case[:8] + (1,)]
        wrong += [case[:at] + (value,) + case[at + 1:] for at in range(8) for value in (0, 1, None, "tree", (), [])]
        for value in wrong + any_values():
            self.assertIs(is_plan_right(PlanRight(SETS, PLAIN, cases + (value,))), False, value)
        self.assertIs(is_plan_right(PlanRight(SETS, PLAIN, cases + (list(case),))), True)
        self.assertIs(is_plan_right(PlanRight(*fields)), True)

    def test_other_plans_and_rules(self):
        cases = judge_plan(SETS, PLAIN).cases
        for plan in (CAREFUL, LATE, BACK):
            self.assertIs(is_plan_right(PlanRight(plan, PLAIN, cases)), False)
        for rule in (BARE, JOINED, FREE):
            self.assertIs(is_plan_right(PlanRight(SETS, rule, cases)), False)

    def test_fields_are_copied(self):
        cases = [[True, [1]], {"a": [2]}]
        paper = PlanRight(cases, None, cases)
        cases[0].append(3)
        told = ((True, (1,)), {"a": (2,)})
        self.assertTrue(alike([paper.plan, paper.rule, paper.cases], [told, None, told]))
        for value in any_values():
            paper = PlanWrong(value, value, value, value, value, value)
            for told in (paper.plan, paper.rule, paper.base, paper.one, paper.other, paper.how):
                self.assertTrue(alike(told, tupled(value)))


class PlanWrongTest(unittest.TestCase):
    def paper(self):
        """The fields of a wrong paper with more places than the fewest."""
        base = PLAIN.tree_of("ab", [("a", 1), ("bb", 1), ("b", 3)])
        return [BACK, PLAIN, base, PLAIN.tree_of("ab", [("bb", 1), ("b", 3)]),
                PLAIN.tree_of("ab", [("a", 1), ("ab", 3), ("bb", 1), ("b", 3)]), "words"]

    def test_right_ones(self):
        self.assertIs(is_plan_wrong(PlanWrong(*self.paper())), True)
        rule = Rule([(False, False, 0), (False, False, 1)], [(True, False, 0)])
        one, two = [rule.keeps(tree) and tree for tree in (
            Tree("ab", [("", None, False), ("a", 1, False)]), Tree("ab", [("", None, False), ("b", 1, False)]))]
        self.assertIs(is_plan_wrong(PlanWrong(SETS, rule, Tree("ab", [("", None, False)]), one, two, "rule")), True)
        self.assertIs(is_plan_wrong(PlanWrong(SETS, rule, Tree("ab", [("", None, False)]), one, two, "words")), False)

    def test_bent_ones(self):
        fields = self.paper()
        for number, values in enumerate((
            [SETS, LATE, CAREFUL], [Rule(PLAIN.root, [(True, False, 0)]), Rule([], [])],
            [fields[3], Tree("ab", [("", None, False)])],
            [fields[2], Tree("ba", fields[3].rows)], [fields[2], Tree("ab", fields[4].rows + (("aa", None, False),))],
            ["rule", "clash", "right", "none", "", ("words",)],
        )):
            for value in values + [value for value in any_values() if not isinstance(value, Tree)]:
                told = fields[:number] + [value] + fields[number + 1:]
                self.assertIs(is_plan_wrong(PlanWrong(*told)), False, (number, value))
        trees = [Tree("ba", tree.rows) for tree in fields[2:5]]
        self.assertIs(is_plan_wrong(PlanWrong(BACK, PLAIN, *trees, "words")), True)
        # Each of the trees alone may break the rule, or have other letters.
        for number in (2, 3, 4):
            broken = list(fields)
            broken[number] = Tree("ab", fields[number].rows + (("ba", None, False),))
            self.assertIs(is_plan_wrong(PlanWrong(*broken)), False)
            self.assertEqual(judged_merge(BACK, PLAIN, *broken[2:5]), "words")
            broken[number] = Tree("ba", fields[number].rows)
            self.assertIs(is_plan_wrong(PlanWrong(*broken)), False)
