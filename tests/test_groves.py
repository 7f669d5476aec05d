"""Promise 55: groves, held against the trees that they unfold to, and great ones against sums."""

import itertools
import unittest

from tests import oracle
from tests.drawing import some_routine, some_tree, some_word
from tests.helpers import alike, any_values, check_raises, ranks, seconds_of, seeded, shuffled, some_letters
from tests.merges import mixed, part_of, rows_of, some_plan, some_side
from treeshed.books import known_deeds
from treeshed.errors import (
    BadLetters, BadRank, BadRule, BadValue, BadWord, NoPlace, NoRule, OtherLetters, Ring, TooMany)
from treeshed.groves import Grove
from treeshed.merging import Clash
from treeshed.plans import Plan, known_plan
from treeshed.plays import call
from treeshed.routines import Routine
from treeshed.trees import Tree

DEEDS, SETS = known_deeds(), known_plan("sets")
CAPITALS = "ABCDEFGHIJKLMNOPQRSTUVWXYZ"
LEAF = (None, False, {})


def name_of(number):
    """A name of three letters."""
    return CAPITALS[number // 676 % 26] + CAPITALS[number // 26 % 26] + CAPITALS[number % 26]


def folded(source, tree, share=0.7, more=3):
    """A grove of a tree: equal parts mostly have one name; some names stand for nothing."""
    names = shuffled(source, [name_of(number * 7 + source.randint(0, 6)) for number in range(120)])
    rules, known = {}, {}

    def name_for(part):
        told = tuple(sorted((letter, name_for(child)) for letter, child in part[2].items()))
        key = (part[:2], told)
        if key not in known or source.random() > share:
            known[key] = names.pop()
            rules[known[key]] = source.choice([list, tuple])(part[:2] + (dict(shuffled(source, told)),))
        return known[key]

    root = name_for(part_of(tree))
    for _ in range(source.randint(0, more)):
        letter, below = source.choice(tree.letters), source.choice(list(rules))
        rules[names.pop()] = (source.choice([None, 4]), source.random() < 0.5, {letter: below})
    order = shuffled(source, rules)
    return Grove(tree.letters, {name: rules[name] for name in order}, root)


def names_below(rules, tops):
    """The names that stand below some names, these too."""
    found = set()
    waiting = list(tops)
    while waiting:
        name = waiting.pop()
        if name not in found:
            found.add(name)
            waiting.extend(rules[name][2].values())
    return found


def unlike_parts(tree):
    """How many unlike parts a tree has."""
    return len({repr(sorted_part(part_of(tree, row[0]))) for row in tree.rows})


def sorted_part(part):
    """A part with its children in the order of Python."""
    return part[:2] + (sorted((letter, sorted_part(child)) for letter, child in part[2].items()),)


def great(letters, values, children, root=None):
    """A grove of so many levels: at each one the values, and all the letters that are told go to the level below."""
    rules = {name_of(0): (values[0], False, {})}
    for number in range(1, len(values)):
        rules[name_of(number)] = (values[number], False, {letter: name_of(number - 1) for letter in children})
    return Grove(letters, rules, root or name_of(len(values) - 1))


class SessionTest(unittest.TestCase):
    def test_the_session(self):
        full = Grove("ab", {"A" * (n + 1): (1 if n == 0 else None, False, {"a": "A" * n, "b": "A" * n} if n > 0 else {})
                            for n in range(8)}, "A" * 8)
        told = [full.size, full.many, full.rank("b"), full.word_of(3), full.begins("ab"), full.value_of("abababa")]
        self.assertTrue(alike(told, [255, 128, 64, "aaaaabb", 32, 1]))
        answer, more = full.call(DEEDS["put"], "ab", 5)
        less = full.call(DEEDS["strike"], "aaaaaaa", 1)[1]
        told = [answer, more.many, more.rank("abaaaaa"), less.below("aaaaaa"), full.differing(more)]
        self.assertTrue(alike(told + [less.differing(more), full.same(more)], ["yes", 129, 33, "b", 1, 2, False]))
        both = full.merged(SETS, more, less)
        self.assertTrue(alike([both.many, both.value_of("ab"), both.has("aaaaaaa"), len(both.rules)],
                              [128, 5, False, 15]))
        names = [first + second for first in "ABCDEFGHIJ" for second in "ABCDEFGHIJ"]
        high = Grove("ab", {names[n]: (2, False, {"a": names[n - 1], "b": names[n - 1]} if n > 0 else {})
                            for n in range(100)}, "JJ")
        told = [high.many == 2 ** 100 - 1, high.word_of(2 ** 99), high.merged(SETS, high, full).same(full)]
        self.assertTrue(alike(told, [True, "b", True]))


class SmallTest(unittest.TestCase):
    """What a small grove tells is what its unfolded tree tells."""

    def check_told(self, source, grove, tree):
        """Checks all that a grove tells of its tree."""
        words = [word for word, _ in tree.word_items()]
        self.assertEqual(grove.unfolded(), tree)
        self.assertTrue(alike([grove.letters, grove.size, grove.many], [tree.letters, tree.size, len(words)]))
        for rank, word in enumerate(words):
            self.assertTrue(alike([grove.word_of(rank), grove.rank(word)], [word, rank]))
        places = [row[0] for row in tree.rows] + [some_word(source, tree.letters, 6) for _ in range(12)]
        for place in places:
            self.assertTrue(alike([grove.has(place), grove.value_of(place)], [tree.has(place), tree.value_of(place)]))
            ahead = [word for word in words if ranks(word, tree.letters) < ranks(place, tree.letters)]
            begins = [word for word in words if word.startswith(place)]
            self.assertTrue(alike([grove.rank(place), grove.begins(place)], [len(ahead), len(begins)]))
            if tree.has(place):
                self.assertTrue(alike([grove.row(place), grove.below(place)], [tree.row(place), tree.below(place)]))
            else:
                check_raises(self, NoPlace, {"place": place}, grove.row, place)
                check_raises(self, NoPlace, {"place": place}, grove.below, place)

    def test_places_values_ranks_and_words(self):
        source = seeded(271)
        for _ in range(300):
            letters = some_letters(source, source.choice([2, 3, 26]))
            tree = some_tree(source, letters, source.randint(1, 14))
            grove = folded(source, tree, source.random())
            self.check_told(source, grove, tree)

    def test_calls(self):
        source = seeded(272)
        cut, made = 0, 0
        for _ in range(900):
            letters = some_letters(source, source.choice([2, 3, 5]))
            tree = some_tree(source, letters, source.randint(1, 12))
            grove = folded(source, tree, source.random())
            before = grove.rules
            routine = some_routine(source) if source.random() < 0.5 else source.choice(list(DEEDS.values()))
            word, value = some_word(source, letters, 5), source.randint(1, 3)
            answer, behind = grove.call(routine, word, value)
            expected, places = oracle.called(oracle.rows_of_tree(tree), routine, word, value)
            self.assertTrue(alike(answer, expected))
            told = behind.unfolded()
            self.assertEqual(oracle.rows_of_tree(told), places)
            self.assertTrue(alike((answer, told.rows), (lambda pair: (pair[0], pair[1].rows))(
                call(tree, routine, word, value))))
            self.assertTrue(alike(grove.rules, before))
            cut, made = cut + (told.size < tree.size), made + (told.size > tree.size)
            self.check_names(grove, behind, word)
        self.assertGreater(min(cut, made), 15)

    def test_calls_beside_many_children(self):
        count = Routine.read("turn:\n    if others > 1:\n        return yes\n    if others == 1:\n        return no")
        rules = {"A": LEAF, "B": (None, False, {letter: "A" for letter in "abcde"}),
                 "C": (1, False, {"a": "B", "b": "A"})}
        for root, word, answer in (("B", "", "yes"), ("B", "f", "yes"), ("C", "", "yes"), ("C", "c", "yes"),
                                   ("A", "", None),
                                   ("C", "ab", None), ("C", "a", "yes")):
            self.assertEqual(Grove("abcdef", rules, root).call(count, word, 1)[0], answer)
        stop = Routine.read("down:\n    stop\n" + count.text())
        for root, word, answer in (("B", "a", "yes"), ("C", "b", "no"), ("C", "e", "yes")):
            self.assertEqual(Grove("abcdef", rules, root).call(stop, word, 1)[0], answer)

    def check_names(self, grove, behind, word):
        """Checks the names of a grove that a call has left."""
        rules, old = behind.rules, grove.rules
        way, kept, name = [], [], behind.root
        for length in range(len(word) + 1):
            way.append(name)
            parts = dict(rules[name][2])
            following = parts.pop(word[length:length + 1], None)
            place = word[:length]
            for letter, other in parts.items():
                # The children beside the way have the names that they had.
                top = grove.root
                for told in place:
                    top = old[top][2][told]
                self.assertEqual(other, old[top][2][letter])
                kept.append(other)
            if following is None:
                break
            name = following
        beside = names_below(old, kept)
        self.assertEqual(len(set(way)), len(way))
        self.assertFalse(set(way) & beside)
        self.assertEqual(set(rules), set(way) | beside)
        for name in beside:
            self.assertTrue(alike(rules[name], old[name]))

    def test_same_and_differing(self):
        source = seeded(273)
        same = 0
        for _ in range(500):
            letters = some_letters(source, source.choice([2, 3]))
            tree = some_tree(source, letters, source.randint(1, 9))
            other = some_side(source, tree, source.choice([0, 1, 2, 4]))
            if source.random() < 0.1:
                other = some_tree(source, letters, 6)
            groves = [folded(source, told, source.random()) for told in (tree, other)]
            words = {row[0] for told in (tree, other) for row in told.rows}
            many = len([word for word in words if tree.value_of(word) != other.value_of(word)])
            for one, two in (groves, groves[::-1]):
                self.assertTrue(alike([one.same(two), one.differing(two)], [tree == other, many]))
            same += tree == other
        self.assertGreater(same, 50)

    def test_merges(self):
        source = seeded(274)
        clashes = 0
        for _ in range(1500):
            letters, plan = some_letters(source, source.choice([2, 3])), some_plan(source)
            base = some_tree(source, letters, source.randint(1, 8))
            one, other = some_side(source, base, 4), some_side(source, base, 4)
            groves = [folded(source, tree, source.random()) for tree in (base, one, other)]
            mix, made = mixed(plan, base, one, other), groves[0].merged(plan, *groves[1:])
            if mix.clashes:
                clashes += 1
                self.assertIs(made.__class__, Clash)
                self.assertTrue(alike(made.place, mix.clashes[0]))
                continue
            tree = Tree(letters, rows_of(mix.part))
            self.assertEqual(made.unfolded(), tree)
            self.assertEqual(len(made.rules), unlike_parts(tree))
            self.assertEqual(names_below(made.rules, [made.root]), set(made.rules))
        self.assertGreater(clashes, 120)

    def test_unequal_names_for_equal_parts(self):
        rules = {"A": (1, False, {}), "B": (1, False, {}), "C": (None, False, {"a": "A", "b": "B"}),
                 "D": (None, False, {"a": "B", "b": "B"}), "E": (None, False, {"b": "A"})}
        one, other = Grove("ab", rules, "C"), Grove("ab", rules, "D")
        self.assertEqual([one.same(other), one.differing(other), len(one.merged(SETS, one, other).rules)], [True, 0, 2])
        self.assertEqual([one.same(Grove("ab", rules, "E")), one.differing(Grove("ab", rules, "E"))], [False, 1])

    def test_a_name_at_many_places_is_changed_at_one(self):
        rules = {"A": LEAF, "B": (1, False, {"a": "A", "b": "A"}), "C": (None, True, {"a": "B", "b": "B"})}
        grove = Grove("ab", rules, "C")
        answer, behind = grove.call(DEEDS["put"], "aa", 7)
        self.assertEqual([answer, behind.value_of("aa"), behind.value_of("ab")], ["yes", 7, None])
        self.assertEqual([behind.value_of("ba"), grove.value_of("aa"), len(behind.rules)], [None, None, 5])

    def test_letters_in_any_order(self):
        rules = {"A": (1, False, {}), "B": (2, False, {"a": "A", "c": "A", "b": "A"})}
        grove = Grove("cab", rules, "B")
        told = [grove.below(""), [grove.word_of(rank) for rank in range(4)], grove.rank("a"), grove.rank("b")]
        self.assertEqual(told, ["cab", ["", "c", "a", "b"], 2, 3])


class GreatTest(unittest.TestCase):
    def test_places_words_and_ranks(self):
        for many, children in itertools.product((60, 150, 200), ("ab", "abc")):
            values = [1 if number % 3 == 0 else None for number in range(many + 1)]
            grove, wide = great("abc", values, children), len(children)
            self.assertEqual(grove.size, sum(wide ** level for level in range(many + 1)))
            kept = [level for level in range(many + 1) if (many - level) % 3 == 0]
            self.assertEqual(grove.many, sum(wide ** level for level in kept))
            below = {level: sum(wide ** (told - level) for told in kept if told >= level) for level in range(many + 2)}
            source = seeded(many)
            for _ in range(20):
                word = some_word(source, children, many)
                rank = sum(told in kept for told in range(len(word)))
                rank += sum(children.index(letter) * below[at + 1] for at, letter in enumerate(word))
                self.assertEqual([grove.rank(word), grove.begins(word)], [rank, below[len(word)]])
                if len(word) in kept:
                    self.assertEqual([grove.word_of(rank), grove.value_of(word)], [word, 1])
                rank = source.randrange(grove.many)
                self.assertEqual(grove.rank(grove.word_of(rank)), rank)

    def test_calls_and_what_differs(self):
        source = seeded(275)
        for children in ("ab", "abc"):
            grove = great("abcd", [None] * 60 + [2] + [None] * 60, children)
            wide = len(children)
            self.assertEqual([grove.size, grove.many], [sum(wide ** level for level in range(121)), wide ** 60])
            told, many = grove, grove.many
            changed = set()
            for _ in range(12):
                word = some_word(source, children, 120)
                was = told.value_of(word)
                answer, told = told.call(DEEDS["put"], word, 5)
                self.assertEqual(answer, "no" if was else "yes")
                changed |= set() if was else {word}
                self.assertEqual(told.size, grove.size)
            self.assertEqual(told.many, many + len(changed))
            self.assertEqual([grove.differing(told), told.differing(grove), told.same(grove)],
                             [len(changed), len(changed), False])
            for word in changed:
                answer, told = told.call(Routine.read("turn:\n    if at end:\n        unmark"), word, 1)
            self.assertEqual([told.many, told.same(grove), grove.differing(told)], [many, True, 0])
            answer, shorter = grove.call(DEEDS["put"], "d" * 200, 1)
            self.assertEqual([shorter.size - grove.size, shorter.rank("d" * 200)], [200, many])

    def test_merges(self):
        grove = great("ab", [1] + [None] * 100, "ab")
        self.assertEqual(grove.many, 2 ** 100)
        one = grove.call(DEEDS["put"], "ab" * 20, 3)[1].call(DEEDS["strike"], "a" * 100, 1)[1]
        other = grove.call(DEEDS["set"], "ba" * 50, 4)[1].call(DEEDS["put"], "", 5)[1]
        made = grove.merged(SETS, one, other)
        self.assertEqual([made.many, made.value_of("ab" * 20), made.has("a" * 100)], [2 ** 100 + 1, 3, False])
        self.assertEqual([made.value_of("ba" * 50), made.value_of("")], [4, 5])
        self.assertEqual([grove.differing(made), one.differing(made), other.differing(made)], [4, 2, 2])
        self.assertTrue(made.same(grove.merged(SETS, other, one)))
        clash = grove.merged(SETS, one, one.call(DEEDS["set"], "ab" * 20, 4)[1])
        self.assertEqual(clash.place, "ab" * 20)
        # Only what lies on the ways of the words has names of its own.
        self.assertLess(len(made.rules), 450)

    def test_trees_that_differ_everywhere(self):
        low, high = great("abc", [1] * 101, "abc"), great("abc", [2] * 101, "abc")
        self.assertEqual(low.differing(high), sum(3 ** level for level in range(101)))
        more = great("abc", [1] * 101, "ab")
        self.assertEqual(low.differing(more), low.many - more.many)
        self.assertTrue(low.merged(Plan("bare", "take", "one", True), high, more).has("ab"))
        self.assertEqual(low.merged(SETS, high, great("abc", [3] * 101, "abc")).place, "")

    def test_they_are_soon_back(self):
        grove = great("abcdefghijklmnopqrstuvwxyz", [1] * 201, CAPITALS.lower())
        self.assertGreater(grove.size, 10 ** 280)
        other = grove.call(DEEDS["set"], "q" * 200, 2)[1]
        arguments = {
            "rank": ["z" * 200], "begins": ["n" * 100], "word_of": [grove.many - 1], "same": [other],
            "differing": [other], "has": ["a" * 200], "row": ["b" * 200], "below": ["c" * 199],
        }
        for name, told in arguments.items():
            self.assertLess(seconds_of(getattr(grove, name), *told), 2)
        self.assertLess(seconds_of(grove.merged, SETS, other, grove), 3)
        self.assertLess(seconds_of(grove.call, DEEDS["strike"], "z" * 200, 1), 3)
        self.assertEqual([grove.word_of(grove.many - 1), grove.differing(other)], ["z" * 200, 1])

    def test_a_thousand_names_that_no_level_shares(self):
        # Five names for each level, and each of them stands over all five of the one below.
        rules = {}
        for number in range(200):
            for at, start in enumerate("PQRST"):
                name, below = start + name_of(number), {letter: told + name_of(number - 1) for letter, told in zip(
                    "abcde", "PQRST"[at:] + "PQRST"[:at])}
                rules[name] = (at + 1, number % 2 == 0, below if number else {})
        grove = Grove("abcde", rules, "P" + name_of(199))
        self.assertEqual([grove.size, len(grove.rules)], [sum(5 ** level for level in range(200)), 1000])
        fields = {"what": "rules", "many": 200 + 5 * 198 + 4, "most": 1000}
        check_raises(self, TooMany, fields, grove.call, DEEDS["set"], "a" * 199, 1)


class MadeOfTest(unittest.TestCase):
    RULES = {"A": (1, False, {}), "B": [None, True, {"a": "A"}], "C": (None, False, {"b": "B", "a": "A"}),
             "Z": (9, True, {"b": "C"})}

    def test_rules_are_new_with_each_access(self):
        rules = {name: (told[0], told[1], dict(told[2])) for name, told in self.RULES.items()}
        given = dict(rules)
        given["B"] = list(rules["B"])
        grove = Grove("ab", given, "C")
        given["C"][2]["a"] = "B"
        given.pop("Z")
        told = {name: (rule[0], rule[1], rule[2]) for name, rule in self.RULES.items()}
        self.assertTrue(alike(grove.rules, told))
        grove.rules["C"][2].clear()
        grove.rules.clear()
        self.assertTrue(alike(grove.rules, told))
        first = grove.rules
        self.assertEqual(len({id(rule[2]) for rule in list(first.values()) + list(grove.rules.values())}), 8)
        self.assertTrue(alike([grove.letters, grove.root, grove.size, grove.many], ["ab", "C", 4, 2]))

    def test_equal_calls_are_equal(self):
        source = seeded(276)
        for _ in range(30):
            tree = some_tree(source, "ab", 8)
            grove = folded(source, tree)
            groves = [Grove("ab", grove.rules, grove.root) for _ in range(2)]
            word = some_word(source, "ab", 3)
            told = [told.call(DEEDS["set"], word, 3) for told in groves]
            self.assertEqual([told[0][0], told[0][1].rules, told[0][1].root],
                             [told[1][0], told[1][1].rules, told[1][1].root])
            made = [told.merged(SETS, told, groves[0]) for told in groves]
            self.assertEqual([made[0].rules, made[0].root], [made[1].rules, made[1].root])

    def test_wrong_letters(self):
        for letters in ["a", "aa", "aB", "", "abc1", None, 5] + any_values():
            if letters not in ("ab", "ba"):
                check_raises(self, BadLetters, {"letters": letters}, Grove, letters, {}, None)

    def test_too_many_rules(self):
        for many in (0, 1001, 1200):
            rules = {name_of(number): (0, False, {}) for number in range(many)}
            fields = {"what": "rules", "many": many, "most": 1000}
            check_raises(self, TooMany, fields, Grove, "ab", rules, None)
        rules = {name_of(number): (1, False, {}) for number in range(1000)}
        self.assertEqual(Grove("ab", rules, "AAA").many, 1)

    def test_wrong_rules(self):
        wrong_names = ["", "a", "Ab", "A1", "A B", "A" * 9, "\u00c9", None, 1, True, (), ("A",)]
        for name in wrong_names:
            check_raises(self, BadRule, {"name": name}, Grove, "ab", {"A": LEAF, name: LEAF, "B": (0, False, {})}, None)
        self.assertEqual(Grove("ab", {"A" * 8: LEAF}, "A" * 8).size, 1)
        wrong = [
            (None, False), (None, False, {}, 1), (0, False, {}), (10, False, {}), (True, False, {}), ("1", False, {}),
            (None, 0, {}), (None, None, {}), (None, False, []), (None, False, None), (None, False, {"c": "A"}),
            (None, False, {"": "A"}), (None, False, {"ab": "A"}), (None, False, {None: "A"}), (None, False, {1: "A"}),
            (None, False, {("a",): "A"}), (None, False, {"a": "X"}), (None, False, {"a": "a"}),
            (None, False, {"a": None}),
            (None, False, {"a": ["A"]}), (None, False, {"a": {}}), (None, False, {"a": "A", "b": "X"}), None, 5, "AAA",
        ]
        for value in wrong + any_values():
            told = {"A": LEAF, "C": LEAF, "B": value, "D": None}
            check_raises(self, BadRule, {"name": "B"}, Grove, "ab", told, None)
            for part in ({"a": value}, {"b": "A", "a": value}):
                told = {"A": LEAF, "B": (None, False, part)}
                check_raises(self, BadRule, {"name": "B"}, Grove, "ab", told, None)
        # The first in the dict's order; a name that is a key, but no name, is none.
        told = {"B": (None, False, {"a": "x"}), "x": LEAF}
        check_raises(self, BadRule, {"name": "B"}, Grove, "ab", told, "B")
        told = {"x": LEAF, "B": (None, False, {"a": "x"})}
        check_raises(self, BadRule, {"name": "x"}, Grove, "ab", told, "B")

    def test_wrong_rules_come_ahead_of_rings(self):
        told = {"A": (None, False, {"a": "A"}), "B": (None, False, {"a": "X"})}
        check_raises(self, BadRule, {"name": "B"}, Grove, "ab", told, "A")

    def test_rings(self):
        def rules(**told):
            return {name: (None, False, dict(zip("ab", parts))) for name, parts in told.items()}
        for told, first in (
            (rules(A="A"), "A"), (rules(B="A", A="B"), "A"), (rules(C="CB", B="A", A=""), "C"),
            (rules(A="B", B="C", C="B"), "B"), (rules(A="", Z="YA", Y="X", X="Z", W="W"), "W"),
            (rules(D="EA", E="F", F="D", A="B", B=""), "D"), (rules(A="M", M="N", N="MZ", Z="Y", Y="Z"), "M"),
            # B stands between two rings, and on none.
            (rules(E="E", D="DB", B="E", A="D"), "D"), (rules(AA="B", B="C", C=("AA",)), "AA"),
        ):
            for order in (list(told), list(told)[::-1]):
                for root in (list(told)[0], "A", "Q", None, []):
                    check_raises(self, Ring, {"name": first}, Grove, "ab", {name: told[name] for name in order}, root)

    def test_drawn_rings(self):
        source = seeded(277)
        rings = 0
        for _ in range(300):
            names = shuffled(source, CAPITALS[:source.randint(2, 9)])
            rules = {}
            for at, name in enumerate(names):
                lower = names[:at] if source.random() < 0.85 else names
                parts = {letter: source.choice(lower) for letter in "abc" if lower and source.random() < 0.5}
                rules[name] = (1, False, parts)
            below = {name: names_below(rules, rules[name][2].values()) for name in names}
            on_ring = sorted(name for name in names if name in below[name])
            if on_ring:
                rings += 1
                check_raises(self, Ring, {"name": on_ring[0]}, Grove, "abc", rules, names[0])
            else:
                self.assertTrue(Grove("abc", rules, names[0]).has(""))
        self.assertGreater(rings, 50)

    def test_a_thousand_names_in_a_ring(self):
        rules = {name_of(number): (None, False, {letter: name_of((number + step) % 1000) for letter, step in zip(
            "abcdef", (1, 2, 3, 5, 8, 13))}) for number in range(1000)}
        self.assertLess(seconds_of(Grove, "abcdef", rules, "AAA"), 5)
        check_raises(self, Ring, {"name": "AAA"}, Grove, "abcdef", rules, "AAA")
        chain = {name_of(number): (None, False, {"a": name_of(number + 1), "b": name_of(999)} if number < 999 else {})
                 for number in range(1000)}
        fields = {"what": "letters", "many": 999, "most": 200}
        check_raises(self, TooMany, fields, Grove, "ab", chain, name_of(0))
        self.assertEqual(Grove("ab", chain, name_of(999)).size, 1)

    def test_no_rule(self):
        for root in ["", "D", "a", "AA", b"A", ("A",)] + any_values():
            check_raises(self, NoRule, {"root": root}, Grove, "ab", self.RULES, root)

    def test_chains(self):
        for many in (200, 201, 202, 203):
            rules = {name_of(number): (None, False,
                                       {"a": name_of(number - 1)} if number else {}) for number in range(many)}
            if many <= 201:
                grove = Grove("ab", rules, name_of(many - 1))
                self.assertEqual([grove.size, grove.has("a" * (many - 1)), grove.has("a" * many)], [many, True, False])
            else:
                fields = {"what": "letters", "many": many - 1, "most": 200}
                check_raises(self, TooMany, fields, Grove, "ab", rules, name_of(many - 1))
                # A root further down has a tree that is not too long.
                self.assertEqual(Grove("ab", rules, name_of(200)).size, 201)

    def test_great_chains_that_the_tree_does_not_need(self):
        rules = {name_of(number): (1, False, {letter: name_of(number - 1) for letter in "abcdefgh"} if number else {})
                 for number in range(1000)}
        self.assertLess(seconds_of(Grove, "abcdefgh", rules, name_of(1)), 3)
        self.assertEqual(Grove("abcdefgh", rules, name_of(1)).size, 9)


class ErrorTest(unittest.TestCase):
    def grove(self):
        """A grove of six places and four words."""
        return Grove("ab", {"A": (1, False, {}), "B": (None, True, {"a": "A", "b": "A"}),
                            "C": (None, False, {"b": "B", "a": "D"}), "D": (2, False, {"a": "E"}), "E": (3, True, {})},
                            "C")

    def test_any_values_as_places_and_words(self):
        grove, tree = self.grove(), self.grove().unfolded()
        for value in ["c", "A", "a" * 201, "ab" * 200, b"a", ("a",), ["a"]] + any_values():
            self.assertTrue(alike([grove.has(value), grove.value_of(value)], [tree.has(value), tree.value_of(value)]))
            if not tree.has(value):
                check_raises(self, NoPlace, {"place": value}, grove.row, value)
                check_raises(self, NoPlace, {"place": value}, grove.below, value)
            if not isinstance(value, str) or value.strip("ab") or len(value) > 200:
                for told in ((grove.begins, value), (grove.rank, value), (grove.call, DEEDS["put"], value, 0)):
                    check_raises(self, BadWord, {"number": 0}, *told)
        self.assertEqual([grove.begins("b" * 200), grove.rank("b" * 200)], [0, 4])

    def test_wrong_values(self):
        for value in [0, 10, True, None, "1"] + any_values():
            if not isinstance(value, int) or isinstance(value, bool) or not 1 <= value <= 9:
                check_raises(self, BadValue, {"number": 0}, self.grove().call, DEEDS["put"], "a", value)

    def test_wrong_ranks(self):
        grove = self.grove()
        self.assertEqual([grove.word_of(rank) for rank in range(4)], ["a", "aa", "ba", "bb"])
        for value in [-1, 4, 5, 10 ** 40, True, False, "0", None] + any_values():
            if isinstance(value, bool) or value not in (0, 1, 2):
                check_raises(self, BadRank, {"number": value}, grove.word_of, value)
        check_raises(self, BadRank, {"number": 0}, Grove("ab", {"A": LEAF}, "A").word_of, 0)
        high = great("ab", [1] * 101, "ab")
        check_raises(self, BadRank, {"number": 2 ** 101 - 1}, high.word_of, 2 ** 101 - 1)
        self.assertEqual(high.word_of(2 ** 101 - 2), "b" * 100)

    def test_unfolding_2000_places_and_one_more(self):
        # Ten ways of 199 places over a root with nine bare ends more, and one end more than that.
        for more in (8, 9, 10):
            rules = {name_of(number): (1, False, {"a": name_of(number - 1)} if number else {}) for number in range(199)}
            parts = {letter: name_of(198) for letter in "abcdefghij"}
            parts.update({letter: "AAA" for letter in "klmnopqrst"[:more]})
            grove = Grove("abcdefghijklmnopqrst", {**rules, "ROOT": (None, True, parts)}, "ROOT")
            self.assertEqual(grove.size, 1991 + more)
            if more <= 9:
                self.assertEqual(grove.unfolded().size, 1991 + more)
            else:
                check_raises(self, TooMany, {"what": "places", "many": 2001, "most": 2000}, grove.unfolded)
        high = great("ab", [1] * 101, "ab")
        check_raises(self, TooMany, {"what": "places", "many": 2 ** 101 - 1, "most": 2000}, high.unfolded)

    def test_other_letters(self):
        rules = {"A": LEAF}
        base = Grove("ab", rules, "A")
        for letters in ("ba", "abc", "cd"):
            other = Grove(letters, rules, "A")
            check_raises(self, OtherLetters, {}, base.same, other)
            check_raises(self, OtherLetters, {}, other.differing, base)
            for sides in ((other, base), (base, other), (other, other)):
                check_raises(self, OtherLetters, {}, base.merged, SETS, *sides)

    def test_too_many_rules_behind_a_call(self):
        # 900 names below one place beside the way, and as many places of the way as the word has.
        rules, names = {}, [name_of(number) for number in range(900)]
        for number, name in enumerate(names):
            lower = [other for other in (number * 3 + step for step in (1, 2, 3)) if other < 900]
            rules[name] = (number % 9 + 1, False, {letter: names[other] for letter, other in zip("abc", lower)})
        rules["ROOT"] = (None, False, {"b": "AAA"})
        grove = Grove("abc", rules, "ROOT")
        self.assertEqual(len(grove.rules), 901)
        for letters in (98, 99, 100, 101):
            many = 901 + letters
            if many <= 1000:
                self.assertEqual(len(grove.call(DEEDS["put"], "a" * letters, 1)[1].rules), many)
            else:
                fields = {"what": "rules", "many": many, "most": 1000}
                check_raises(self, TooMany, fields, grove.call, DEEDS["put"], "a" * letters, 1)
        # Names that no place needs any more are not counted.
        more = {**rules, **{"X" + name_of(number): LEAF for number in range(99)}}
        self.assertEqual(len(Grove("abc", more, "ROOT").call(DEEDS["put"], "a" * 99, 1)[1].rules), 1000)
        check_raises(self, BadWord, {"number": 0}, grove.call, DEEDS["put"], "d" * 101, 0)
        self.assertEqual(len(grove.call(DEEDS["put"], "b" * 99, 1)[1].rules), len(grove.call(
            DEEDS["put"], "b" * 99, 2)[1].rules))

    def test_too_many_rules_in_a_merge(self):
        # Each side has three ways, with a value of its own each, so all parts but their bare tops are unlike.
        letters = "abcdefg"
        base = Grove(letters, {"A": LEAF}, "A")
        for many in (100, 166, 167):
            sides = []
            for start, ways in (("P", "abc"), ("Q", "def")):
                rules = {}
                for value, letter in enumerate(ways, letters.index(ways[0]) + 1):
                    for number in range(many):
                        name = start + letter.upper() + name_of(number)
                        below = {"a": start + letter.upper() + name_of(number - 1)} if number else {}
                        rules[name] = (value, False, below)
                parts = {letter: start + letter.upper() + name_of(many - 1) for letter in ways}
                sides.append(Grove(letters, {**rules, "ROOT": (None, False, parts)}, "ROOT"))
            unlike = 6 * many + 1
            if unlike <= 1000:
                self.assertEqual(len(base.merged(SETS, *sides).rules), unlike)
            else:
                fields = {"what": "rules", "many": unlike, "most": 1000}
                check_raises(self, TooMany, fields, base.merged, SETS, *sides)
                clash = [grove.call(DEEDS["put"], "", value)[1] for value, grove in enumerate(sides, 1)]
                self.assertEqual(base.merged(SETS, *clash).place, "")
                check_raises(self, TooMany, fields, base.merged, Plan("bare", "take", "one", True), *clash)
