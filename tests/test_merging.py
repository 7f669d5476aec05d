"""Promises 2, 20 to 22 and 49: merging three trees, what is due, and what merges of exact rules make."""

import itertools
import unittest

from tests.drawing import some_tree
from tests.helpers import KINDS, alike, any_values, check_raises, long_rows, seeded, shuffled, some_letters, tupled
from tests.merges import (
    exchanged, in_order, merged_maps, mixed, part_of, rows_of, some_changed_map, some_exact_rule, some_flags, some_map,
    some_plan, some_side, verdict)
from treeshed.errors import OtherLetters, TooMany
from treeshed.merging import Clash, Merged, due, judged_merge, merged
from treeshed.plans import Plan, known_plan, with_flags
from treeshed.rules import Rule, flags_of, known_rule
from treeshed.trees import Tree

PLAIN = known_rule("plain")
SETS = known_plan("sets")


def some_three(source, most=8):
    """Three trees over the same letters: any ones, or two sides of the first one."""
    letters = some_letters(source, source.choice([2, 2, 3]))
    base = some_tree(source, letters, source.randint(1, most))
    if source.random() < 0.15:
        return base, some_tree(source, letters, source.randint(1, 5)), some_tree(source, letters, source.randint(1, 5))
    one, other = some_side(source, base, 4), some_side(source, base, 4)
    if source.random() < 0.3:
        other = some_side(source, one, 2)
    return base, one, other


def shown(made):
    """What a merge tells, to be compared."""
    return ("clash", made.place) if isinstance(made, Clash) else (made.tree.rows, made.taken)


class SessionTest(unittest.TestCase):
    def test_the_session(self):
        base = Tree("ab", [("", None, False), ("a", 1, False)])
        one = Tree("ab", [("", None, False), ("b", 2, False)])
        other = Tree("ab", [("", None, False), ("a", 1, False), ("ab", 3, False)])
        back = known_plan("back")
        made = merged(SETS, base, one, other)
        rows = (("", None, False), ("a", None, False), ("ab", 3, False), ("b", 2, False))
        self.assertTrue(alike(made.tree.rows, rows))
        told = [made.taken, merged(known_plan("careful"), base, one, other).place]
        self.assertTrue(alike(told, [(("ab", "other"), ("b", "one")), "a"]))
        told = [due(base, one, other, "a"), merged(back, base, one, other).tree.value_of("a")]
        self.assertTrue(alike(told + [judged_merge(back, PLAIN, base, one, other)], [(None,), 1, "words"]))


class MergedTest(unittest.TestCase):
    def test_drawn_trees_and_all_plans(self):
        source = seeded(201)
        many = {}
        for _ in range(5000):
            plan, (base, one, other) = some_plan(source), some_three(source)
            mix, made = mixed(plan, base, one, other), merged(plan, base, one, other)
            if mix.clashes:
                self.assertIs(made.__class__, Clash)
                self.assertTrue(alike(made.place, mix.clashes[0]))
            else:
                self.assertIs(made.__class__, Merged)
                self.assertEqual(made.tree, Tree(base.letters, rows_of(mix.part)))
                self.assertTrue(alike(made.taken, tuple(mix.taken)))
            found = (plan.gone, plan.alike, plan.unlike, plan.tidy, bool(mix.clashes))
            many[found] = many.get(found, 0) + 1
        # All plans, each with merges that clash and that do not, but for the one that never clashes.
        self.assertEqual(len(many), 96 - 3 * 2 * 2)

    def test_sides_that_are_the_base(self):
        source = seeded(202)
        for _ in range(300):
            plan, (base, side, _) = some_plan(source), some_three(source)
            made = merged(plan, base, base, side)
            self.assertEqual([made.tree, made.taken], [side, (("", "other"),)])
            made = merged(plan, base, side, base)
            told = (("", "one"),) if side != base else (("", "other"),)
            self.assertEqual([made.tree, made.taken], [side, told])

    def test_one_place_by_the_numbers(self):
        bare, kept = Tree("ab", [("", None, False)]), Tree("ab", [("", None, False), ("a", 1, False)])
        longer = Tree("ab", [("", None, False), ("a", 1, False), ("aa", 2, False)])
        for unlike in ("clash", "one", "other"):
            for tidy in (False, True):
                took = merged(Plan("clash", "take", unlike, tidy), kept, bare, bare)
                self.assertEqual([took.tree.rows, took.taken], [bare.rows, ()])
                self.assertEqual(merged(Plan("bare", "clash", unlike, tidy), kept, bare, bare).place, "a")
                self.assertEqual(merged(Plan("clash", "take", unlike, tidy), kept, bare, longer).place, "a")
                made = merged(Plan("kept", "take", unlike, tidy), kept, bare, longer)
                self.assertEqual([made.tree, made.taken], [longer, (("a", "other"),)])
                made = merged(Plan("kept", "take", unlike, tidy), kept, longer, bare)
                self.assertEqual([made.tree, made.taken], [longer, (("a", "one"),)])
                made = merged(Plan("base", "take", unlike, tidy), kept, longer, bare)
                self.assertEqual([made.tree, made.taken], [longer, (("aa", "one"),)])
                made = merged(Plan("bare", "take", unlike, tidy), kept, longer, bare)
                rows = (("", None, False), ("a", None, False), ("aa", 2, False))
                self.assertEqual([made.tree.rows, made.taken], [rows, (("aa", "one"),)])

    def test_the_flag_of_a_missing_part(self):
        base = Tree("ab", [("", None, False), ("a", 1, True)])
        gone, other = Tree("ab", [("", None, False)]), Tree("ab", [("", None, False), ("a", 2, True), ("ab", 1, False)])
        for name, flag in (("bare", False), ("base", True)):
            for unlike, sides in (("other", (gone, other)), ("one", (other, gone))):
                made = merged(Plan(name, "take", unlike, True), base, *sides)
                self.assertTrue(alike(made.tree.row("a"), ("a", 2, flag)))

    def test_both_sides_make_a_place(self):
        base = Tree("ab", [("", None, False)])
        for values, plan, told in (
            ((1, 2), Plan("bare", "take", "one", True), 1), ((1, 2), Plan("bare", "take", "other", True), 2),
            ((1, 2), Plan("bare", "take", "clash", True), "b"), ((3, 3), Plan("bare", "take", "clash", True), 3),
            ((3, 3), Plan("bare", "clash", "one", True), "b"), ((None, 2), Plan("bare", "clash", "clash", True), 2),
            ((1, None), Plan("bare", "clash", "clash", True), 1),
        ):
            sides = [Tree("ab", [("", None, False), ("b", value, False)]) for value in values]
            made = merged(plan, base, *sides)
            self.assertEqual(made.place if isinstance(made, Clash) else made.tree.value_of("b"), told)

    def test_flags_do_not_clash(self):
        base, flagged = Tree("ab", [("", 1, False)]), Tree("ab", [("", 1, True)])
        for plan in (known_plan("careful"), Plan("clash", "clash", "one", False)):
            self.assertEqual(merged(plan, base, flagged, flagged).tree, flagged)
            made = merged(plan, base, flagged, Tree("ab", [("", 2, False)]))
            self.assertEqual(made.tree.rows, (("", 2, True),))

    def test_the_flags_of_a_plan_are_set_where_the_merge_goes_on(self):
        base = Tree("ab", [("", None, False), ("a", 1, False), ("b", 1, False)])
        one = Tree("ab", [("", None, False), ("a", 2, False), ("b", 1, False)])
        other = Tree("ab", [("", None, False), ("a", 1, False), ("b", 1, False), ("ab", 1, False)])
        flags = {key: False for key in flags_of(known_rule("joined"))}
        for key in ((True, False, 2), (False, True, 1)):
            plan = Plan("bare", "take", "clash", True, {**flags, key: True})
            told = [(place, flag) for place, _, flag in merged(plan, base, one, other).tree.rows]
            told = dict(told)
            self.assertEqual(told, {"": key[0], "a": not key[0], "ab": False, "b": False})

    def test_tidy_leaves_the_root_and_untidy_all(self):
        base = Tree("ab", [("", None, False), ("a", 1, False)])
        gone = Tree("ab", [("", 1, False)])
        other = Tree("ab", [("", 2, False), ("a", None, False)])
        for tidy, rows in ((True, (("", 1, False),)), (False, (("", 1, False), ("a", None, False)))):
            made = merged(Plan("bare", "take", "one", tidy), base, gone, other)
            self.assertEqual(made.tree.rows, rows)
        root = Tree("ab", [("", None, False)])
        made = merged(Plan("bare", "take", "one", True), Tree("ab", [("", 1, False), ("a", 1, False)]), root, root)
        self.assertEqual(made.tree, root)

    def test_a_part_that_is_taken_is_not_tidied(self):
        base = Tree("ab", [("", None, False)])
        one = Tree("ab", [("", None, False), ("a", None, True), ("ab", None, False)])
        other = Tree("ab", [("", None, False), ("b", 1, False)])
        made = merged(SETS, base, one, other)
        self.assertEqual(made.tree.rows, one.rows + (("b", 1, False),))
        self.assertEqual(made.taken, (("a", "one"), ("b", "other")))

    def test_the_first_place_in_order_that_clashes(self):
        for letters in ("ab", "ba"):
            base = Tree(letters, [(place, 1, False) for place in ("", "a", "ab", "b", "ba")])
            for places in (("ab", "b"), ("a", "ab"), ("", "a", "b"), ("ba", "ab"), ("ba", "b")):
                sides = [Tree(letters, [(row[0], value if row[0] in places else 1, False) for row in base.rows])
                         for value in (2, 3)]
                self.assertEqual(merged(SETS, base, *sides).place, in_order(places, letters)[0])

    def test_nothing_clashes_below_what_is_not_looked_into(self):
        base = Tree("ab", [("", None, False), ("a", 1, False), ("ab", 1, False)])
        one = Tree("ab", [("", None, False), ("a", 1, False), ("ab", 2, False)])
        gone = Tree("ab", [("", None, False)])
        self.assertEqual(merged(Plan("kept", "clash", "clash", True), base, one, gone).tree, one)
        self.assertEqual(merged(Plan("clash", "clash", "clash", True), base, one, gone).place, "a")
        self.assertEqual(merged(Plan("bare", "clash", "clash", True), base, one, gone).place, "ab")

    def test_long_ways(self):
        source = seeded(203)
        for _ in range(6):
            way = "".join(source.choice("ab") for _ in range(200))
            rows = [(way[:length], source.choice([None, 1]), False) for length in range(200)] + [(way, 1, False)]
            base = Tree("ab", rows)
            one = Tree("ab", rows[:200] + [(way, 2, False)])
            other = Tree("ab", rows[:100] + [(way[:100], 3, True)] + rows[101:])
            plan = some_plan(source)
            mix, made = mixed(plan, base, one, other), merged(plan, base, one, other)
            self.assertEqual(mix.clashes, [])
            self.assertEqual(made.tree, Tree("ab", rows_of(mix.part)))
            self.assertTrue(alike(made.taken, tuple(mix.taken)))
            self.assertEqual(merged(SETS, base, one, Tree("ab", rows[:200] + [(way, 3, False)])).place, way)

    def test_exchanged_sides(self):
        source = seeded(204)
        clashes = 0
        for _ in range(600):
            plan, (base, one, other) = some_plan(source), some_three(source)
            made, turned = merged(plan, base, one, other), merged(exchanged(plan), base, other, one)
            self.assertIs(made.__class__, turned.__class__)
            if isinstance(made, Clash):
                self.assertEqual(made.place, turned.place)
                clashes += 1
            else:
                self.assertEqual(made.tree, turned.tree)
                sides = {"one": "other", "other": "one"}
                same = [(place, sides[side]) for place, side in turned.taken]
                told = [(place, side) for place, side in made.taken
                        if part_of(one, place) != part_of(other, place) or (place, side) in same]
                # A part that both have alike is taken as other's, whichever way round.
                self.assertEqual(told, [row for row in same if row in told])
                self.assertEqual([row[0] for row in made.taken], [row[0] for row in turned.taken])
                self.assertTrue(all(part_of(one, place) == part_of(other, place)
                                    for (place, side) in made.taken if (place, side) not in told))
        self.assertGreater(clashes, 100)

    def test_nothing_is_changed_or_kept(self):
        source = seeded(205)
        for _ in range(50):
            plan, trees = some_plan(source), some_three(source)
            before = [tree.rows for tree in trees]
            first, second = merged(plan, *trees), merged(plan, *trees)
            self.assertEqual([tree.rows for tree in trees], before)
            self.assertEqual(shown(first), shown(second))

    def test_results_copy_their_fields(self):
        taken = [["a", "one"], ("b", ["other"])]
        made = Merged([1, [2]], taken)
        taken[0].append(1)
        taken.append(2)
        self.assertTrue(alike([made.tree, made.taken], [(1, (2,)), (("a", "one"), ("b", ("other",)))]))
        self.assertTrue(alike(Clash(["a", [None]]).place, ("a", (None,))))
        for value in any_values():
            self.assertTrue(alike(Clash(value).place, tupled(value)))
            self.assertTrue(alike(Merged(value, None).tree, tupled(value)))


class LettersTest(unittest.TestCase):
    def test_other_letters(self):
        rows = [("", None, False)]
        wide = Tree("abcdefghijk", long_rows("abcdefghijk"))
        for letters in (("ab", "ab", "ba"), ("ab", "ba", "ab"), ("ba", "ab", "ab"), ("ab", "abc", "abc"),
                        ("abc", "abc", "ab"), ("ab", "cd", "ef")):
            trees = [Tree(told, rows) for told in letters]
            check_raises(self, OtherLetters, {}, merged, SETS, *trees)
            check_raises(self, OtherLetters, {}, judged_merge, SETS, PLAIN, *trees)
            for word in ["", "a", "x"] + any_values():
                check_raises(self, OtherLetters, {}, due, *trees, word)
        # Ahead of a clash.
        trees = [Tree("ab", [("", 1, False)]), Tree("ab", [("", 2, False)]), Tree("ba", [("", 3, False)])]
        check_raises(self, OtherLetters, {}, merged, SETS, *trees)
        # Ahead of too many places.
        one, other = two_wide_sides(1100, 1100)
        check_raises(self, OtherLetters, {}, merged, SETS, wide, one, other)

    def test_the_letters_of_the_result(self):
        tree = Tree("dcab", [("", None, False), ("b", 1, False)])
        self.assertEqual(merged(SETS, tree, tree, tree).tree.letters, "dcab")


def two_wide_sides(one, other, value=None):
    """Two trees of the root and so many other places, with no place in common but the root."""
    def rows(letters, many):
        places = [letters[at // 200] * (at % 200 + 1) for at in range(many)]
        return [("", value, False)] + [(place, 1, False) for place in places]
    return Tree("abcdefghijkl", rows("abcdef", one)), Tree("abcdefghijkl", rows("ghijkl", other))


class TooManyTest(unittest.TestCase):
    def test_about_2000_places(self):
        base = Tree("abcdefghijkl", [("", None, False)])
        for one, other in ((1000, 998), (1000, 999), (999, 1000), (1000, 1000), (1200, 1200)):
            sides = two_wide_sides(one, other)
            many = 1 + one + other
            for plan in (SETS, known_plan("back"), known_plan("careful")):
                if many <= 2000:
                    self.assertEqual(merged(plan, base, *sides).tree.size, many)
                    self.assertEqual(judged_merge(plan, known_rule("bare"), base, *sides), "right")
                else:
                    fields = {"what": "places", "many": many, "most": 2000}
                    check_raises(self, TooMany, fields, merged, plan, base, *sides)
                    check_raises(self, TooMany, fields, judged_merge, plan, PLAIN, base, *sides)

    def test_a_clash_comes_first(self):
        base = Tree("abcdefghijkl", [("", None, False)])
        for one, other in ((1000, 999), (1000, 1000), (1200, 1200)):
            sides = [two_wide_sides(one, other, 1)[0], two_wide_sides(one, other, 2)[1]]
            self.assertEqual(merged(SETS, base, *sides).place, "")
            self.assertEqual(judged_merge(SETS, PLAIN, base, *sides), "clash")


class DueTest(unittest.TestCase):
    def test_all_triples_of_values(self):
        for values in itertools.product((None, 1, 2, 3), repeat=3):
            for word in ("", "ba"):
                trees = [Tree("ab", [("", None, False), ("b", 5, True), ("ba", value, False)]) if word
                         else Tree("ab", [("", value, False)]) for value in values]
                base, one, other = values
                if one == base:
                    told = (other,)
                elif other == base or other == one:
                    told = (one,)
                else:
                    told = (one, other)
                self.assertTrue(alike(due(*trees, word), told))

    def test_missing_places_and_no_words(self):
        trees = [Tree.of("ab", [("ab", 1)]), Tree.of("ab", []), Tree.of("ab", [("ab", 2), ("b", 3)])]
        self.assertTrue(alike([due(*trees, word) for word in ("ab", "b", "a", "bb")], [(None, 2), (3,), (None,),
            (None,)]))
        for word in ["c", "a" * 201, "AB"] + any_values():
            if word not in ("ab", "b"):
                self.assertTrue(alike(due(*trees, word), (None,)), word)


class JudgedTest(unittest.TestCase):
    def test_drawn_trees(self):
        source = seeded(206)
        many = {}
        for _ in range(2500):
            plan, trees = some_plan(source), some_three(source)
            rule = Rule(source.sample(KINDS, 10), source.sample(KINDS, 10))
            told = judged_merge(plan, rule, *trees)
            self.assertEqual(told, verdict(plan, rule, *trees))
            many[told] = many.get(told, 0) + 1
        self.assertGreater(min(many.values()), 50)
        self.assertEqual(set(many), {"clash", "words", "rule", "right"})

    def test_the_first_that_holds(self):
        base = Tree("ab", [("", None, False), ("a", 1, False)])
        gone, other = Tree("ab", [("", None, False)]), Tree("ab", [("", None, False), ("a", 1, False), ("ab", 3, True)])
        self.assertEqual(judged_merge(Plan("kept", "take", "one", True), Rule([], []), base, gone, other), "words")
        self.assertEqual(judged_merge(Plan("bare", "take", "one", True), Rule([], []), base, gone, other), "rule")
        self.assertEqual(judged_merge(Plan("clash", "take", "one", True), Rule([], []), base, gone, other), "clash")
        free = known_rule("free")
        self.assertEqual(judged_merge(Plan("bare", "take", "one", True), free, base, gone, other), "right")
        self.assertEqual(judged_merge(Plan("kept", "take", "one", True), free, base, gone, other), "words")


class ExactTest(unittest.TestCase):
    def some_rule(self, source):
        """plain, joined, or any exact rule."""
        return source.choice([PLAIN, known_rule("joined"), some_exact_rule(source)])

    def plans(self, source, rule):
        """A plan as [22] asks."""
        plan = Plan("bare", source.choice(["take", "clash"]), source.choice(["clash", "one", "other"]), True)
        bare = not any(kind[1] for kind in rule.root + rule.others)
        return plan if bare and source.random() < 0.5 else with_flags(plan, rule)

    def test_the_map_is_merged_word_by_word(self):
        source = seeded(207)
        clashes, whole = 0, 0
        for _ in range(1500):
            rule, letters = self.some_rule(source), some_letters(source, source.choice([2, 3]))
            plan = self.plans(source, rule)
            base = some_map(source, letters, source.randint(0, 5))
            one, other = [some_changed_map(source, base, letters, 3) for _ in range(2)]
            if source.random() < 0.2:
                other = some_changed_map(source, one, letters, 1)
            trees = [rule.tree_of(letters, list(words.items())) for words in (base, one, other)]
            words, unlike, same = merged_maps(plan, base, one, other)
            made = merged(plan, *trees)
            refused = (unlike if plan.unlike == "clash" else []) + (same if plan.alike == "clash" else [])
            self.assertIs(isinstance(made, Clash), len(refused) > 0)
            if isinstance(made, Clash):
                clashes += 1
                if plan.alike == "take":
                    self.assertEqual(made.place, in_order(unlike, letters)[0])
            else:
                whole += 1
                self.assertEqual(made.tree, rule.tree_of(letters, list(words.items())))
                self.assertEqual(judged_merge(plan, rule, *trees), "right")
        self.assertGreater(min(clashes, whole), 150)

    def test_both_sides_the_same(self):
        source = seeded(208)
        for _ in range(400):
            rule = self.some_rule(source)
            base, side = [rule.tree_of("ab", list(some_map(source, "ab", 4).items())) for _ in range(2)]
            flags = source.choice([None, flags_of(rule)])
            plan = Plan(source.choice(["clash", "kept", "bare", "base"]), "take", source.choice(["clash", "one",
                "other"]), source.random() < 0.5, flags)
            self.assertEqual(merged(plan, base, side, side).tree, side)

    def test_sides_one_by_one_in_any_order(self):
        source = seeded(209)
        many = 0
        while many < 150:
            rule = self.some_rule(source)
            plan = with_flags(Plan("bare", "take", source.choice(["clash", "one", "other"]), True), rule)
            base = some_map(source, "ab", source.randint(0, 5))
            sides = [some_changed_map(source, base, "ab", 3) for _ in range(3)]
            pairs = itertools.combinations(sides, 2)
            if any(merged_maps(plan, base, *pair)[1] for pair in pairs):
                continue
            many += 1
            trees = [rule.tree_of("ab", list(words.items())) for words in [base] + sides]
            last = []
            for order in itertools.permutations(trees[1:]):
                tree = order[0]
                for side in order[1:]:
                    tree = merged(plan, trees[0], *shuffled(source, [tree, side])).tree
                last.append(tree)
            self.assertTrue(all(tree == last[0] for tree in last))

    def test_plans_that_are_not_as_asked(self):
        # Each of the three conditions is needed: a tree of plain, or of joined, is not merged right without it.
        base, one, other = [PLAIN.tree_of("ab", items) for items in (
            [("a", 1), ("aa", 1)], [("aa", 1)], [("a", 1)])]
        self.assertEqual(judged_merge(Plan("bare", "take", "clash", True), PLAIN, base, one, other), "right")
        self.assertEqual(judged_merge(Plan("bare", "take", "clash", False), PLAIN, base, one, other), "rule")
        joined = known_rule("joined")
        base, one, other = [joined.tree_of("ab", items) for items in (
            [("a", 1), ("aa", 1)], [("aa", 1)], [("a", 1), ("aa", 1), ("ab", 1)])]
        self.assertEqual(judged_merge(known_plan("sets"), joined, base, one, other), "rule")
        self.assertEqual(judged_merge(with_flags(known_plan("sets"), joined), joined, base, one, other), "right")
        flags = some_flags(seeded(210))
        self.assertEqual(merged(Plan("bare", "take", "clash", True, flags), base, base, one).tree, one)
