"""Promises 2, 20 and 48: class Plan, the known plans, and the flags of exact rules."""

import itertools
import unittest

from tests.helpers import alike, any_values, check_raises, seeded
from treeshed.errors import BadName, BadPlan, NotExact
from treeshed.plans import Plan, known_plan, with_flags
from treeshed.rules import Rule, flags_of, known_rule

GONE, ALIKE, UNLIKE = ("clash", "kept", "bare", "base"), ("take", "clash"), ("clash", "one", "other")
KEYS = list(itertools.product((False, True), (False, True), (0, 1, 2)))
KNOWN = {
    "sets": ("bare", "take", "clash", True), "careful": ("clash", "clash", "clash", True),
    "late": ("bare", "take", "other", True), "back": ("base", "take", "one", False),
}


def some_flags(source):
    """A dict of flags, its keys in any order."""
    return {key: source.random() < 0.5 for key in source.sample(KEYS, 12)}


def fields_of(plan):
    """The five fields."""
    return [plan.gone, plan.alike, plan.unlike, plan.tidy, plan.flags]


class PlanTest(unittest.TestCase):
    def test_fields(self):
        source = seeded(131)
        for fields in itertools.product(GONE, ALIKE, UNLIKE, (False, True)):
            self.assertTrue(alike(fields_of(Plan(*fields)), list(fields) + [None]))
            flags = some_flags(source)
            plan = Plan(*fields, flags)
            self.assertTrue(alike(fields_of(plan)[:4], list(fields)))
            self.assertTrue(alike(dict(sorted(plan.flags.items())), dict(sorted(flags.items()))))
        self.assertIsNone(Plan("bare", "take", "one", True, None).flags)

    def test_flags_are_new_with_each_access(self):
        flags = some_flags(seeded(132))
        before = dict(flags)
        plan = Plan("bare", "take", "one", True, flags)
        flags[KEYS[0]] = None
        flags.pop(KEYS[1])
        self.assertEqual(plan.flags, before)
        plan.flags.clear()
        self.assertIsNot(plan.flags, plan.flags)
        self.assertEqual(plan.flags, before)

    def test_keys_by_equality(self):
        flags = {(int(root), kept, children): True for root, kept, children in KEYS}
        plan = Plan("bare", "take", "one", True, flags)
        self.assertEqual(plan.flags, {key: True for key in KEYS})

    def test_wrong_fields(self):
        right = ["bare", "take", "one", True, None]
        wrong = [
            ["Bare", "", "take", b"bare", ("bare",)], ["Take", "", "bare", "one", ("take",)],
            ["two", "", "take", ["one"]],
            [0, 1, None, "True", ()], [(), [], False, True, 0, "", {}],
        ]
        names = ["gone", "alike", "unlike", "tidy", "flags"]
        for number, values in enumerate(wrong):
            for value in values + any_values():
                if alike(value, right[number]) or (number == 3 and isinstance(value, bool)):
                    continue
                for later in range(number, 5):
                    told = list(right)
                    told[number], told[later] = value, value if later == number else wrong[later][0]
                    check_raises(self, BadPlan, {"field": names[number]}, Plan, *told)

    def test_wrong_flags(self):
        flags = {key: False for key in KEYS}
        for key in KEYS:
            fewer = {other: False for other in KEYS if other != key}
            for wrong in (
                fewer, {**fewer, (True, True, 3): False}, {**flags, key: 0}, {**flags, key: None}, {**flags, key: "no"},
                {**flags, (True, True, 3): False}, {**fewer, key[:2]: True}, {**flags, None: True}, list(flags),
                tuple(flags.items()),
            ):
                check_raises(self, BadPlan, {"field": "flags"}, Plan, "bare", "take", "one", True, wrong)

    def test_equal_and_unlike_plans(self):
        source = seeded(133)
        flags = some_flags(source)
        plan = Plan("bare", "take", "one", True, flags)
        self.assertTrue(plan == Plan("bare", "take", "one", True, dict(sorted(flags.items()))))
        others = [
            Plan("base", "take", "one", True, flags), Plan("bare", "clash", "one", True, flags),
            Plan("bare", "take", "other", True, flags), Plan("bare", "take", "one", False, flags),
            Plan("bare", "take", "one", True), Plan("bare", "take", "one", True, {**flags,
                KEYS[3]: not flags[KEYS[3]]}),
            fields_of(plan), flags,
        ]
        for other in others + any_values():
            self.assertFalse(plan == other)
            self.assertFalse(other == plan)


class KnownPlanTest(unittest.TestCase):
    def test_known_plans(self):
        for name, fields in KNOWN.items():
            self.assertTrue(known_plan(name) == Plan(*fields))
            self.assertTrue(alike(fields_of(known_plan(name)), list(fields) + [None]))

    def test_other_names(self):
        for name in ["", "Sets", "set", "plain", b"sets", ("sets",), ["sets"]] + any_values():
            check_raises(self, BadName, {"name": name}, known_plan, name)


class WithFlagsTest(unittest.TestCase):
    def test_the_flags_of_exact_rules(self):
        source = seeded(134)
        rules = [known_rule("plain"), known_rule("joined")]
        for _ in range(10):
            root = [(False, False, 0)] + [
                (kept, source.random() < 0.5, children) for kept in (False,
                True) for children in range(3) if kept or children]
            others = [(kept, source.random() < 0.5, children) for kept, _, children in root[1:]]
            rules.append(Rule(root, others))
        for rule, fields in itertools.product(rules, KNOWN.values()):
            for flags in (None, some_flags(source)):
                plan = Plan(*fields, flags)
                self.assertEqual(with_flags(plan, rule), Plan(*fields, flags_of(rule)))
                self.assertEqual(with_flags(plan, rule).flags, flags_of(rule))
                self.assertEqual(plan, Plan(*fields, flags))

    def test_rules_that_are_not_exact(self):
        for rule in (known_rule("bare"), known_rule("free"), Rule([], [])):
            check_raises(self, NotExact, {}, with_flags, known_plan("sets"), rule)
