"""Promises 2, 4 and 40: kinds, class Rule and what is asked of rules, but for all_trees."""

import copy
import itertools
import unittest

from tests.helpers import (
    ALPHABET, KINDS, alike, any_values, check_raises, long_rows, ranks, seconds_of, seeded, shuffled, some_letters,
    some_rows,
)
from treeshed.errors import BadItem, BadKind, BadLetters, BadName, NoPlace, NotExact, TooMany
from treeshed.rules import Rule, all_trees, flags_of, kind_of, known_rule, least_part
from treeshed.trees import Tree

ROOT = ("", None, False)
SHAPES = list(itertools.product((False, True), (0, 1, 2)))
NO_KINDS = [
    (False, False), (False, False, 0, 0), (), [], [True, True], (False, False, 3), (False, False, -1), (0, False, 0),
    (False, 0, 0), (1, True, 2), (True, 1, 2), (None, False, 0), (False, None, 0), (False, False, None),
    (False, False, False), (False, False, True), (False, False, "0"), (False, False, (0,)), (False, False, 10 ** 40),
    "ab0", {True: 1, False: 2, 2: 3},
]
PLAIN = [(kept, False, children) for kept, children in SHAPES]
KNOWN = {
    "plain": (PLAIN, PLAIN[1:]),
    "joined": (PLAIN, [(False, True, 1), (False, False, 2), (True, False, 0), (True, False, 1), (True, False, 2)]),
    "bare": (PLAIN, PLAIN),
    "free": (KINDS, KINDS),
}


def some_rule(source, share=0.5):
    """A rule with any kinds."""
    return Rule(*[[kind for kind in KINDS if source.random() < share] for _ in range(2)])


def some_exact_rule(source):
    """An exact rule with any flags."""
    root = [(False, False, 0)] + [(kept, source.random() < 0.5, children) for kept, children in SHAPES[1:]]
    return Rule(shuffled(source, root), [(kept, source.random() < 0.5, children) for kept, children in SHAPES[1:]])


def kinds_by_rows(rows):
    """The kinds of the places, told by the rows alone."""
    many = {place: sum(other[:-1] == place and other != "" for other, _, _ in rows) for place, _, _ in rows}
    return {place: (value is not None, flag, min(2, many[place])) for place, value, flag in rows}


class SessionTest(unittest.TestCase):
    def test_the_session(self):
        plain, joined = known_rule("plain"), known_rule("joined")
        tree = joined.tree_of("ab", [("ab", 3), ("b", 1)])
        told = [tree.row("a"), kind_of(tree, ""), kind_of(tree, "a")]
        self.assertTrue(alike(told, [("a", None, True), (False, False, 2), (False, True, 1)]))
        told = [plain.broken_at(tree), joined.broken_at(tree), plain.keeps(tree)]
        self.assertTrue(alike(told, ["a", None, False]))
        told = [plain.is_exact(), joined.is_exact(), known_rule("bare").is_exact(), least_part(plain)]
        self.assertTrue(alike(told, [True, True, False, 1]))
        self.assertIsNone(least_part(Rule([], [(True, False, 1)])))
        flags = flags_of(joined)
        told = [len(flags), flags[(False, False, 1)], flags[(True, False, 1)], flags[(False, True, 1)]]
        self.assertTrue(alike(told + [flags[(False, False, 0)]], [12, True, False, False, False]))
        told = [len(all_trees(plain, "ab", size, [1])) for size in (1, 2, 3)]
        self.assertEqual(told, [2, 4, 18])
        self.assertEqual([len(all_trees(plain, "ab", 2, [1, 2])), len(all_trees(plain, "ab", 1, []))], [12, 1])


class RuleTest(unittest.TestCase):
    def test_attributes_are_ascending_tuples(self):
        source = seeded(11)
        for _ in range(60):
            root, others = [[kind for kind in KINDS if source.random() < 0.5] for _ in range(2)]
            mixed = [[source.choice([list, tuple])(kind) for kind in shuffled(source, side)] for side in (root, others)]
            for told in (mixed, [tuple(side) for side in mixed]):
                rule = Rule(*told)
                self.assertTrue(alike([rule.root, rule.others], [tuple(sorted(root)), tuple(sorted(others))]))

    def test_no_kinds_and_all_kinds(self):
        self.assertTrue(alike([Rule([], []).root, Rule((), ()).others], [(), ()]))
        self.assertTrue(alike(Rule(KINDS[::-1], []).root, tuple(KINDS)))
        self.assertTrue(alike(Rule([], KINDS[::-1]).others, tuple(KINDS)))

    def test_values_that_are_no_kinds(self):
        for value in NO_KINDS + [other for other in any_values() if not alike(other, [False, False, 0])]:
            for number in range(3):
                wrong = KINDS[3:3 + number] + [value, None]
                check_raises(self, BadKind, {"side": "root", "number": number}, Rule, wrong, [value])
                check_raises(self, BadKind, {"side": "others", "number": number}, Rule, [KINDS[0]], wrong)

    def test_a_kind_that_stands_before(self):
        twice = [KINDS[4], list(KINDS[2]), KINDS[5], KINDS[2], list(KINDS[4])]
        check_raises(self, BadKind, {"side": "root", "number": 3}, Rule, twice, [None])
        check_raises(self, BadKind, {"side": "others", "number": 3}, Rule, KINDS, tuple(twice))
        for number, kind in enumerate(KINDS):
            wrong = KINDS[:number + 1] + [list(kind)]
            check_raises(self, BadKind, {"side": "root", "number": number + 1}, Rule, wrong, [])

    def test_the_same_kind_may_stand_on_both_sides(self):
        self.assertEqual(Rule([KINDS[1]], [KINDS[1]]).root, Rule([KINDS[1]], [KINDS[1]]).others)

    def test_equal_and_unlike_rules(self):
        rule = Rule(KINDS[:3], KINDS[4:7])
        self.assertTrue(rule == Rule([list(kind) for kind in KINDS[2::-1]], tuple(KINDS[6:3:-1])))
        others = [
            Rule(KINDS[4:7], KINDS[:3]), Rule(KINDS[:3], KINDS[4:8]), Rule(KINDS[:2], KINDS[4:7]), Rule([], []),
            Rule(KINDS[:3], []), (rule.root, rule.others), known_rule("plain"),
        ]
        for other in others + any_values():
            self.assertFalse(rule == other)
            self.assertFalse(other == rule)
            self.assertTrue(rule != other)

    def test_lists_are_neither_changed_nor_kept(self):
        root, others = [[False, True, 0], [True, False, 2]], [[True, True, 1]]
        before = copy.deepcopy((root, others))
        rule = Rule(root, others)
        self.assertTrue(alike((root, others), before))
        root[0][1] = False
        others.append([False, False, 0])
        expected = [((False, True, 0), (True, False, 2)), ((True, True, 1),)]
        self.assertTrue(alike([rule.root, rule.others], expected))


class KindTest(unittest.TestCase):
    def test_kind_of(self):
        source = seeded(12)
        for many in (1, 2, 5, 40, 150):
            letters = some_letters(source, source.randint(2, 26))
            rows = some_rows(source, letters, many)
            tree = Tree(letters, shuffled(source, rows))
            for place, kind in kinds_by_rows(rows).items():
                self.assertTrue(alike(kind_of(tree, place), kind))

    def test_two_stands_for_more_children(self):
        for many in range(27):
            tree = Tree(ALPHABET, [("", 3, True)] + [(letter, 1, False) for letter in ALPHABET[:many]])
            self.assertTrue(alike(kind_of(tree, ""), (True, True, min(many, 2))))

    def test_places_that_are_not_there(self):
        tree = Tree("ab", [ROOT, ("b", 1, False)])
        for value in any_values() + ["aa", "bb", "c", "B", "b" * 201]:
            if value != "":
                check_raises(self, NoPlace, {"place": value}, kind_of, tree, value)

    def test_keeps_and_broken_at(self):
        source = seeded(13)
        kept = 0
        for _ in range(500):
            letters = some_letters(source, source.randint(2, 5))
            rows = some_rows(source, letters, source.randint(1, 9))
            rule = some_rule(source, 0.85)
            wrong = [place for place, kind in kinds_by_rows(rows).items()
                     if kind not in (rule.root if place == "" else rule.others)]
            first = min(wrong, key=lambda place: ranks(place, letters), default=None)
            tree = Tree(letters, rows)
            self.assertTrue(alike([rule.broken_at(tree), rule.keeps(tree)], [first, first is None]))
            kept += first is None
        self.assertGreater(kept, 50)
        self.assertLess(kept, 450)

    def test_each_kind_at_the_root_and_elsewhere(self):
        for kept, flag, children in KINDS:
            value = 7 if kept else None
            below = [(letter, 1, False) for letter in "ab"[:children]]
            tree = Tree("ab", [("", value, flag)] + below)
            lower = Tree("ab", [ROOT, ("a", value, flag)] + [("a" + letter, 1, False) for letter in "ab"[:children]])
            left = [kind for kind in KINDS if kind != (kept, flag, children)]
            self.assertTrue(alike([Rule(left, KINDS).broken_at(tree), Rule(KINDS, KINDS).broken_at(tree)], ["", None]))
            self.assertIsNone(Rule([(kept, flag, children)], KINDS).broken_at(tree))
            self.assertTrue(alike([Rule(KINDS, left).broken_at(lower), Rule(left, KINDS).keeps(lower)],
                                  ["a", (kept, flag, children) != (False, False, 1)]))

    def test_the_order_of_letters_tells_the_first_broken_place(self):
        rows = [ROOT, ("a", None, True), ("ab", 1, False), ("b", None, True)]
        plain = known_rule("plain")
        self.assertEqual([plain.broken_at(Tree(letters, rows)) for letters in ("ab", "ba", "cbda")], ["a", "b", "b"])


class ExactTest(unittest.TestCase):
    """An exact rule is one with just one tree for each map; places of two letters show it ([4])."""

    @classmethod
    def setUpClass(cls):
        cls.trees = {}
        for kinds, kept, flagged in root_forms():
            cls.trees.setdefault((kept, kinds), []).append(flagged)

    def is_exact(self, rule):
        """Whether each map of words of at most two letters has just one tree of the rule."""
        found = {}
        for (kept, (root, others)), flagged in self.trees.items():
            if root in rule.root and others <= frozenset(rule.others):
                found.setdefault(kept, []).extend(flagged)
        return len(found) == 128 and all(len(trees) == 1 for trees in found.values()) and found[()] == [False]

    def check(self, rule):
        exact = self.is_exact(rule)
        self.assertIs(rule.is_exact(), exact, (rule.root, rule.others))
        if exact:
            self.assertEqual(len(flags_of(rule)), 12)
        else:
            check_raises(self, NotExact, {}, flags_of, rule)
            for letters, items in (("ab", []), ("a", [None])):
                check_raises(self, NotExact, {}, rule.tree_of, letters, items)
        return exact

    def test_exact_rules_and_their_neighbours(self):
        source = seeded(14)
        for _ in range(8):
            rule = some_exact_rule(source)
            self.assertTrue(self.check(rule))
            for kind in source.sample(KINDS, 5):
                root, others = [[other for other in side if other != kind] for side in (rule.root, rule.others)]
                self.check(Rule(root if kind in rule.root else rule.root + (kind,), rule.others))
                self.check(Rule(rule.root, others if kind in rule.others else rule.others + (kind,)))

    def test_each_kind_more_or_less_than_plain(self):
        plain = known_rule("plain")
        for kind in KINDS:
            root, others = [tuple(other for other in side if other != kind) for side in (plain.root, plain.others)]
            for rule in (Rule(root, plain.others), Rule(plain.root, others), Rule(root + (kind,), plain.others),
                         Rule(plain.root, others + (kind,))):
                self.assertIs(self.check(rule), rule == plain)

    def test_a_flag_at_the_root_of_no_words(self):
        plain = known_rule("plain")
        self.assertFalse(self.check(Rule(((False, True, 0),) + plain.root[1:], plain.others)))

    def test_other_rules(self):
        source = seeded(15)
        for share in (0.2, 0.5, 0.7):
            for _ in range(15):
                self.check(some_rule(source, share))
        self.check(Rule([], []))
        self.check(Rule(KINDS, KINDS))

    def test_flags_of(self):
        source = seeded(16)
        for _ in range(30):
            rule = some_exact_rule(source)
            expected = {(at_root, kept, children): False for at_root in (False, True) for kept, children in SHAPES}
            expected.update({(True, kept, children): flag for kept, flag, children in rule.root})
            expected.update({(False, kept, children): flag for kept, flag, children in rule.others})
            flags = flags_of(rule)
            self.assertEqual(flags, expected)
            self.assertTrue(all(type(flag) is bool for flag in flags.values()))
            self.assertTrue(all(list(map(type, key)) == [bool, bool, int] for key in flags))

    def test_flags_are_new_with_each_call(self):
        rule = known_rule("joined")
        flags = flags_of(rule)
        flags[(False, False, 1)] = False
        flags.pop((True, True, 2))
        self.assertEqual([len(flags_of(rule)), flags_of(rule)[(False, False, 1)]], [12, True])
        self.assertIsNot(flags_of(rule), flags_of(rule))

    def test_tree_of(self):
        source = seeded(17)
        for _ in range(60):
            rule = some_exact_rule(source)
            letters = some_letters(source, source.randint(2, 4))
            words = {"".join(source.choices(letters, k=source.randint(0, 5))) for _ in range(source.randint(0, 12))}
            items = [(word, source.randint(1, 9)) for word in shuffled(source, sorted(words))]
            before = copy.deepcopy(items)
            tree = rule.tree_of(letters, source.choice([list, tuple])(items))
            self.assertEqual(items, before)
            self.assertTrue(rule.keeps(tree))
            self.assertEqual([tree.letters, dict(tree.word_items())], [letters, dict(items)])
            self.assertEqual([row[:2] for row in tree.rows], [row[:2] for row in Tree.of(letters, items).rows])
            self.assertTrue(tree == rule.tree_of(letters, [list(item) for item in items]))

    def test_tree_of_is_the_only_tree(self):
        source = seeded(18)
        for _ in range(6):
            rule = some_exact_rule(source)
            for size in (1, 2, 3, 4):
                for tree in all_trees(rule, "ab", size, [1]):
                    self.assertTrue(rule.tree_of("ab", tree.word_items()) == tree)

    def test_errors_of_tree_of_in_their_order(self):
        plain, bare = known_rule("plain"), known_rule("bare")
        long_items = [(letter + "z" * 199, 1) for letter in ALPHABET[:12]]
        check_raises(self, NotExact, {}, bare.tree_of, "aa", [None])
        check_raises(self, BadLetters, {"letters": "aa"}, plain.tree_of, "aa", [None])
        check_raises(self, BadLetters, {"letters": ["a"]}, plain.tree_of, ["a"], long_items)
        check_raises(self, BadItem, {"number": 1}, plain.tree_of, "ab", [("a", 1), ("a", 2)])
        check_raises(self, BadItem, {"number": 12}, plain.tree_of, ALPHABET, long_items + [("", None)])
        many = 1 + 12 * 200
        fields = {"what": "places", "many": many, "most": 2000}
        check_raises(self, TooMany, fields, plain.tree_of, ALPHABET, long_items)
        for value in any_values():
            if value not in ("ab", "ba"):
                check_raises(self, BadLetters, {"letters": value}, plain.tree_of, value, [])
            if value != ("ab", 1):
                check_raises(self, BadItem, {"number": 0}, plain.tree_of, "ab", [value])


def lower_forms(place, depth):
    """All parts at a place: pairs of the set of kinds below the root and the kept words."""
    below = [[None] + list(lower_forms(place + letter, depth - 1)) for letter in "ab"] if depth else [[None], [None]]
    for chosen in itertools.product(*below):
        parts = [part for part in chosen if part is not None]
        kinds = frozenset().union(*[part[0] for part in parts])
        words = tuple(itertools.chain.from_iterable(part[1] for part in parts))
        for kept, flag in itertools.product((False, True), repeat=2):
            yield kinds | {(kept, flag, len(parts))}, ((place,) if kept else ()) + words


def root_forms():
    """All trees over ab with places of at most two letters: their kinds, their kept words, whether any has a flag."""
    below = [[None] + list(lower_forms(letter, 1)) for letter in "ab"]
    for chosen in itertools.product(*below):
        parts = [part for part in chosen if part is not None]
        kinds = frozenset().union(*[part[0] for part in parts])
        words = tuple(itertools.chain.from_iterable(part[1] for part in parts))
        flagged = any(kind[1] for kind in kinds)
        for kept, flag in itertools.product((False, True), repeat=2):
            yield ((kept, flag, len(parts)), kinds), (("",) if kept else ()) + words, flag or flagged


class LeastPartTest(unittest.TestCase):
    def test_least_part(self):
        for many in range(3):
            for chosen in itertools.combinations(KINDS, many):
                expected = 1 if any(children == 0 for _, _, children in chosen) else None
                self.assertTrue(alike(least_part(Rule([], chosen)), expected))
                self.assertTrue(alike(least_part(Rule(KINDS, chosen)), expected))

    def test_the_root_does_not_count(self):
        self.assertIsNone(least_part(Rule(KINDS, [])))
        self.assertTrue(alike(least_part(Rule([], KINDS)), 1))


class KnownRuleTest(unittest.TestCase):
    def test_the_known_rules(self):
        for name, (root, others) in KNOWN.items():
            rule = known_rule(name)
            self.assertIs(type(rule), Rule)
            self.assertTrue(alike([rule.root, rule.others], [tuple(sorted(root)), tuple(sorted(others))]), name)
            self.assertTrue(rule == known_rule(name))

    def test_which_are_exact(self):
        self.assertEqual([known_rule(name).is_exact() for name in KNOWN], [True, True, False, False])

    def test_other_names(self):
        others = ["Plain", "plain ", "", "plai", ["plain"], ("plain",), b"plain", known_rule("bare")]
        for value in any_values() + others:
            check_raises(self, BadName, {"name": value}, known_rule, value)


class SpeedTest(unittest.TestCase):
    def test_rules_on_2000_places_and_words_of_200_letters(self):
        tree = Tree(ALPHABET, long_rows(ALPHABET))
        items = [(place, value) for place, value, flag in tree.rows if value is not None]
        joined = known_rule("joined")
        for call in [(joined.keeps, tree), (joined.broken_at, tree), (joined.tree_of, ALPHABET, items),
                     (kind_of, tree, tree.rows[-1][0])]:
            self.assertLess(seconds_of(*call), 1, call[0])
