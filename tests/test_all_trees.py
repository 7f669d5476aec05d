"""Promise 40: all_trees."""

import copy
import itertools
import tracemalloc
import unittest

from tests.helpers import (
    ALPHABET, KINDS, alike, any_values, check_raises, seconds_of, seeded, shuffled, some_letters,
)
from treeshed.errors import BadLetters, BadSize, BadValues, TooMany
from treeshed.rules import Rule, all_trees, known_rule
from treeshed.trees import Tree

NINE = list(range(1, 10))
TOO_MANY = {"what": "trees", "many": 5001, "most": 5000}
LEAVES_AND_FORKS = [kind for kind in KINDS if kind[2] != 1]


def place_sets(letters, size):
    """All sets of places with so many members, each with all parents."""
    found = {frozenset([""])}
    for _ in range(size - 1):
        found = {places | {place + letter} for places in found for place in places for letter in letters
                 if place + letter not in places}
    return found


def trees_by_trying(rule, letters, size, values):
    """What all_trees tells, by trying all values and flags at all places."""
    found = []
    labels = list(itertools.product([None] + list(values), (False, True)))
    for places in place_sets(letters, size):
        order = sorted(places)
        many = [sum(other != "" and other[:-1] == place for other in places) for place in order]
        let = [rule.root if place == "" else rule.others for place in order]
        fitting = [[label for label in labels if (label[0] is not None, label[1], min(2, children)) in kinds]
                   for children, kinds in zip(many, let)]
        for chosen in itertools.product(*fitting):
            found.append(tuple(sorted((place, value, flag) for place, (value, flag) in zip(order, chosen))))
    return found


def row_sets(trees):
    """The trees as their rows, in the order of the alphabet."""
    return [tuple(sorted(tree.rows)) for tree in trees]


def peak_of(call, *arguments):
    """How many bytes the call takes at most."""
    tracemalloc.start()
    try:
        call(*arguments)
    except ValueError:
        pass
    peak = tracemalloc.get_traced_memory()[1]
    tracemalloc.stop()
    return peak


class AllTreesTest(unittest.TestCase):
    def check(self, rule, letters, size, values):
        expected = trees_by_trying(rule, letters, size, values)
        if len(expected) > 5000:
            check_raises(self, TooMany, TOO_MANY, all_trees, rule, letters, size, values)
            return
        trees = all_trees(rule, letters, size, values)
        self.assertIs(type(trees), list)
        self.assertEqual(sorted(map(repr, row_sets(trees))), sorted(map(repr, expected)))
        for tree in trees:
            self.assertIs(type(tree), Tree)
            self.assertTrue(rule.keeps(tree))
            self.assertEqual([tree.letters, tree.size], [letters, size])

    def test_known_rules(self):
        for name in ("plain", "joined", "bare", "free"):
            for letters, most in (("ab", 4), ("zyx", 3), ("cabd", 3)):
                for size in range(1, most + 1):
                    for values in ([], [1], [3, 9]):
                        self.check(known_rule(name), letters, size, values)

    def test_other_rules(self):
        source = seeded(21)
        for _ in range(60):
            rule = Rule(*[[kind for kind in KINDS if source.random() < 0.4] for _ in range(2)])
            letters = some_letters(source, source.randint(2, 3))
            values = sorted(source.sample(NINE, source.randint(0, 2)))
            self.check(rule, letters, source.randint(1, 4), values)

    def test_greater_trees(self):
        ways = Rule([(False, False, 1)], [(True, False, 1), (False, True, 0)])
        forks = Rule([(False, False, 2)], [(False, True, 2), (True, False, 0)])
        for size in range(1, 9):
            self.assertEqual(len(all_trees(ways, "ab", size, [5])), 2 ** (size - 1) if size > 1 else 0)
            self.assertEqual(len(all_trees(forks, "ab", size, [5])), {3: 1, 5: 2, 7: 5}.get(size, 0))
        self.check(known_rule("plain"), "ab", 6, [])
        self.check(Rule([(True, False, 2)], [(True, False, 0), (False, True, 1)]), "ab", 7, [4])
        self.check(Rule([(True, False, 1)], [(True, False, 0), (False, True, 1), (False, False, 2)]), "ab", 6, [4])

    def test_eight_places(self):
        self.check(Rule([(False, True, 2)], [(False, True, 0), (False, False, 1), (False, False, 2)]), "ba", 8, [])

    def test_each_number_of_values(self):
        for many in range(10):
            trees = all_trees(known_rule("bare"), "ab", 1, NINE[:many])
            self.assertEqual({tree.value_of("") for tree in trees}, {None} | set(NINE[:many]))
            self.assertEqual(len(trees), many + 1)

    def test_three_and_more_children(self):
        rule = Rule([(False, False, 2)], [(True, False, 0)])
        for size in range(1, 9):
            for letters in ("abcdefg", "gab"):
                expected = len(list(itertools.combinations(letters, size - 1))) if size > 2 else 0
                self.assertEqual(len(all_trees(rule, letters, size, [2])), expected)

    def test_a_rule_without_kinds(self):
        for rule in (Rule([], []), Rule([], KINDS)):
            for size in range(1, 9):
                self.assertEqual(all_trees(rule, "ab", size, NINE), [])
        self.assertEqual(len(all_trees(Rule(KINDS, []), "ab", 1, NINE)), 20)
        self.assertEqual(all_trees(Rule(KINDS, []), "ab", 2, NINE), [])


class LimitTest(unittest.TestCase):
    def test_5000_and_5001_trees(self):
        # A root with one child, 20 ways to mark it, 25 letters, 10 ways to mark the child.
        rule = Rule(KINDS, [(False, False, 0), (True, False, 0)])
        trees = all_trees(rule, ALPHABET[:25], 2, NINE)
        self.assertEqual(len({tree.rows for tree in trees}), 5000)
        self.assertEqual(len(trees), 5000)
        others = [(False, False, 0), (False, False, 1), (False, False, 2), (False, True, 2)]
        root = [(False, False, 1), (True, False, 1), (True, True, 1)] + [kind for kind in KINDS if kind[2] == 2]
        self.assertEqual(len(trees_by_trying(Rule(root, others), "abc", 5, NINE[:6])), 5001)
        check_raises(self, TooMany, TOO_MANY, all_trees, Rule(root, others), "abc", 5, NINE[:6])
        check_raises(self, TooMany, TOO_MANY, all_trees, rule, ALPHABET, 2, NINE)

    def test_very_many_trees_are_refused_soon(self):
        free = known_rule("free")
        for size in (4, 6, 8):
            check_raises(self, TooMany, TOO_MANY, all_trees, free, ALPHABET, size, NINE)
            self.assertLess(seconds_of(all_trees, free, ALPHABET, size, NINE), 2)
            self.assertLess(peak_of(all_trees, free, ALPHABET, size, NINE), 200000)

    def test_no_trees_amid_very_many_parts_are_told_soon(self):
        # Parts of ends and forks have an odd number of places; no kinds and one without children let no such root.
        for root, others, letters in [
            (LEAVES_AND_FORKS, LEAVES_AND_FORKS, "ab"), ([], KINDS, ALPHABET), (KINDS[:1], KINDS, ALPHABET),
        ]:
            call = (all_trees, Rule(root, others), letters, 8, NINE)
            self.assertEqual(call[0](*call[1:]), [])
            self.assertLess(seconds_of(*call), 2)
            self.assertLess(peak_of(*call), 200000)

    def test_many_trees_are_told_soon(self):
        for rule, letters, size, values in [
            (Rule(KINDS, [(False, False, 0), (True, False, 0)]), ALPHABET[:25], 2, NINE),
            (known_rule("plain"), "ab", 5, [1]), (known_rule("bare"), "ab", 8, []),
        ]:
            self.assertGreater(len(all_trees(rule, letters, size, values)), 400)
            self.assertLess(seconds_of(all_trees, rule, letters, size, values), 2)


class WrongTest(unittest.TestCase):
    def setUp(self):
        self.plain = known_rule("plain")

    def test_letters(self):
        for value in any_values() + ["aa", "a", ALPHABET + "a"]:
            if value not in ("ab", "ba"):
                check_raises(self, BadLetters, {"letters": value}, all_trees, self.plain, value, 1, [])

    def test_sizes(self):
        for value in any_values() + [0, 9, -1, 100, 8.0, "1", [1]]:
            if type(value) is not int or not 1 <= value <= 8:
                check_raises(self, BadSize, {"size": value}, all_trees, self.plain, "ab", value, [])

    def test_values(self):
        for value in any_values() + [0, 10, -1, "1", 1.0]:
            if type(value) is not int or not 1 <= value <= 9:
                for before in ([], [1], [2, 5]):
                    wrong = before + [value, 0]
                    check_raises(self, BadValues, {"index": len(before)}, all_trees, self.plain, "ab", 1, wrong)

    def test_values_that_do_not_ascend(self):
        for values, index in [
            ([1, 1], 1), ([2, 1], 1), ([1, 5, 5], 2), ([1, 3, 2, 9], 2), ((4, 9, 9, 9), 2), ([9, 1], 1),
        ]:
            check_raises(self, BadValues, {"index": index}, all_trees, self.plain, "ab", 1, values)

    def test_the_order_of_errors(self):
        free = known_rule("free")
        check_raises(self, BadLetters, {"letters": "aa"}, all_trees, free, "aa", 0, [0])
        check_raises(self, BadSize, {"size": 9}, all_trees, free, ALPHABET, 9, [0])
        check_raises(self, BadValues, {"index": 1}, all_trees, free, ALPHABET, 8, [1, 1])
        check_raises(self, TooMany, TOO_MANY, all_trees, free, ALPHABET, 8, [1])

    def test_arguments_are_neither_changed_nor_kept(self):
        values = [2, 7]
        before = copy.deepcopy(values)
        trees = all_trees(self.plain, "ab", 2, values)
        self.assertEqual(values, before)
        rows = row_sets(trees)
        values.append(9)
        trees.pop()
        self.assertEqual(row_sets(all_trees(self.plain, "ab", 2, before)), rows)
        self.assertTrue(self.plain == known_rule("plain"))

    def test_equal_calls_return_equal_lists_that_are_new(self):
        for values in ([1, 2], (1, 2)):
            one, other = [all_trees(self.plain, "ba", 3, kept) for kept in (values, list(values))]
            self.assertIsNot(one, other)
            self.assertTrue(one == other)

    def test_letters_in_any_order(self):
        source = seeded(22)
        letters = "".join(shuffled(source, "abcd"))
        told, other = [all_trees(self.plain, kept, 3, [1]) for kept in (letters, "abcd")]
        self.assertEqual(sorted(map(repr, row_sets(told))), sorted(map(repr, row_sets(other))))
        self.assertTrue(alike({tree.letters for tree in told}, {letters}))
