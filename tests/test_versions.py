"""Promises 7, 30 to 32 and 53: versions that share places, and the call that makes most new ones."""

import itertools
import unittest
import unittest.mock

from tests.drawing import rule_of_few, some_pair, some_routine, some_tree, some_word
from tests.helpers import alike, any_values, check_raises, long_rows, seconds_of, seeded, some_letters
from tests.merges import some_plan
from tests.record import Record
from tests.test_books import WIDE
from tests.test_merging import two_wide_sides
from treeshed.books import known_deeds
from treeshed.errors import BadSize, BadValue, BadWord, NoVersion, OtherLetters, TooMany
from treeshed.merging import Clash, merged
from treeshed.plans import known_plan
from treeshed.plays import call, played
from treeshed.routines import Routine
from treeshed.rules import Rule, all_trees, known_rule
from treeshed.trees import Tree
from treeshed.versions import Versions, most_new, worst_new

DEEDS, PLAIN, SETS = known_deeds(), known_rule("plain"), known_plan("sets")
ROOT = Tree("ab", [("", None, False)])


def some_deed(source):
    """A known deed, or an odd routine."""
    return source.choice(list(DEEDS.values())) if source.random() < 0.6 else some_routine(source)


class Told:
    """A Versions and a Record, of which the same is asked."""

    def __init__(self, test, source, letters):
        self.test, self.source = test, source
        tree = some_tree(source, letters, source.randint(1, 7))
        self.store, self.record, self.letters = Versions(tree), Record(tree), letters

    def number(self):
        """A version that is not forgotten."""
        return self.source.choice(list(self.record.roots))

    def step(self):
        """Does anything with both."""
        source, chance = self.source, self.source.random()
        if chance < 0.6:
            number, routine, word, value = self.number(), some_deed(source), some_word(source, self.letters, 4), 1
            told = self.store.call(number, routine, word, value)
            self.test.assertTrue(alike(told, self.record.call(number, routine, word, value)))
        elif chance < 0.85:
            plan, numbers = some_plan(source), [self.number() for _ in range(3)]
            told = self.store.merge(plan, *numbers)
            expected = self.record.merge(plan, self.letters, *numbers)
            self.test.assertTrue(alike(told.place if isinstance(told, Clash) else told, expected))
        elif len(self.record.roots) > 1:
            number = self.number()
            self.test.assertTrue(alike(self.store.forget(number), self.record.forget(number)))

    def check(self):
        """Checks that both tell the same."""
        test, store, record = self.test, self.store, self.record
        test.assertTrue(alike(store.kept_versions(), tuple(sorted(record.roots))))
        test.assertTrue(alike(store.stored(), record.stored()))
        for number, root in record.roots.items():
            test.assertEqual(part(store.tree_at(number)), root.part())
            test.assertTrue(alike(store.new_places(number), record.fresh[number]))
        for one, other in itertools.product(record.roots, repeat=2):
            test.assertTrue(alike(store.shared_places(one, other), record.in_common(one, other)))


def part(tree, top=""):
    """The part of a tree, as a record tells it."""
    return tree.row(top)[1:] + ({letter: part(tree, top + letter) for letter in tree.below(top)},)


class SessionTest(unittest.TestCase):
    def test_the_session(self):
        store = Versions(Tree.of("ab", [("ab", 1)]))
        told = [store.call(0, DEEDS["put"], "b", 2), store.call(0, DEEDS["has"], "b", 1),
                store.call(0, DEEDS["strike"], "ab", 1)]
        self.assertTrue(alike(told, [(1, "yes"), (2, "no"), (3, "yes")]))
        told = [store.merge(SETS, 0, 1, 3), store.tree_at(4).word_items(), [store.new_places(at) for at in range(5)]]
        self.assertTrue(alike(told, [4, (("b", 2),), [3, 2, 0, 1, 1]]))
        told = [store.shared_places(0, 1), store.shared_places(4, 1), store.stored(), store.forget(1), store.stored()]
        self.assertTrue(alike(told + [store.kept_versions()], [2, 1, 7, 1, 6, (0, 2, 3, 4)]))
        self.assertEqual([worst_new(DEEDS[name], PLAIN, 3) for name in ("has", "put", "strike")], [0, 4, 4])
        tree, word, value = most_new(DEEDS["put"], PLAIN, 2)
        self.assertEqual([len(word), Versions(tree).call(0, DEEDS["put"], word, value)], [2, (1, "yes")])


class VersionsTest(unittest.TestCase):
    def test_drawn_calls_merges_and_versions_forgotten(self):
        source = seeded(251)
        for _ in range(220):
            told = Told(self, source, some_letters(source, source.choice([2, 3])))
            for _ in range(source.randint(1, 10)):
                told.step()
            told.check()

    def test_places_in_common_behind_a_row_of_calls_are_the_shared_ones(self):
        source = seeded(252)
        for _ in range(300):
            letters = some_letters(source, 2)
            tree = some_tree(source, letters, source.randint(1, 8))
            calls = [(some_deed(source), some_word(source, letters, 3), source.randint(1, 2))
                     for _ in range(source.randint(1, 4))]
            store, number = Versions(tree), 0
            for routine, word, value in calls:
                number, _ = store.call(number, routine, word, value)
                self.assertLessEqual(store.new_places(number), len(word) + 1)
            self.assertEqual(store.shared_places(0, number), len(played(tree, calls).kept_shared))

    def test_what_is_cut_and_made_again_is_another_place(self):
        store = Versions(Tree.of("ab", [("ab", 1), ("b", 1)]))
        store.call(0, DEEDS["strike"], "ab", 1)
        store.call(1, DEEDS["put"], "ab", 1)
        self.assertEqual([store.tree_at(2) == store.tree_at(0), store.shared_places(0, 2)], [True, 1])
        self.assertEqual([store.new_places(2), store.stored()], [3, 8])
        # A value that is changed and changed back.
        store = Versions(Tree.of("ab", [("a", 1), ("b", 1)]))
        store.call(0, DEEDS["set"], "a", 2)
        store.call(1, DEEDS["set"], "a", 1)
        self.assertEqual([store.tree_at(2) == store.tree_at(0), store.shared_places(0, 2)], [True, 1])

    def test_a_call_that_changes_nothing_makes_a_version_of_the_same_places(self):
        store = Versions(Tree.of("ab", [("ab", 1)]))
        for number in range(3):
            self.assertEqual(store.call(number, DEEDS["put"], "ab", 2), (number + 1, "no"))
        self.assertEqual([store.new_places(3), store.shared_places(0, 3), store.stored()], [0, 3, 3])
        # What a call does and takes back within itself is no change.
        same = Routine.read("down:\n    mark\n    unmark\n    flag = true\n    flag = false")
        self.assertEqual(store.call(0, same, "ab", 1)[0], 4)
        self.assertEqual(store.new_places(4), 0)

    def test_a_merge_takes_the_places_of_a_side(self):
        store = Versions(Tree.of("ab", [("a", 1)]))
        store.call(0, DEEDS["set"], "a", 2)
        # One is the base, so all is other's; the other way round all is one's.
        self.assertEqual([store.merge(SETS, 0, 0, 1), store.merge(SETS, 0, 1, 0)], [2, 3])
        self.assertEqual([store.new_places(2), store.shared_places(2, 1), store.shared_places(3, 1)], [0, 2, 2])
        # Both sides have put the same word: the places of neither are taken.
        store.call(0, DEEDS["put"], "b", 1)
        store.call(0, DEEDS["put"], "b", 1)
        self.assertEqual(store.merge(SETS, 0, 4, 5), 6)
        self.assertEqual([store.new_places(6), store.shared_places(6, 4), store.shared_places(6, 0)], [2, 1, 1])

    def test_numbers_are_never_used_again(self):
        store = Versions(ROOT)
        self.assertEqual([store.call(0, DEEDS["put"], "a", 1)[0], store.forget(1), store.forget(0)], [1, 2, 1])
        self.assertEqual([store.kept_versions(), store.stored()], [(), 0])
        store = Versions(ROOT)
        for number in range(1, 30):
            self.assertEqual(store.call(0, DEEDS["put"], "a", 1), (number, "yes"))
            self.assertEqual(store.forget(number), 2)
        self.assertEqual([store.kept_versions(), store.stored()], [(0,), 1])

    def test_the_first_tree_is_an_attribute(self):
        tree = Tree.of("ab", [("ab", 1)])
        store = Versions(tree)
        store.call(0, DEEDS["strike"], "ab", 1)
        self.assertEqual([store.tree, store.tree_at(0)], [tree, tree])

    def test_a_refused_call_changes_nothing(self):
        store = Versions(Tree("abcdefghijk", long_rows("abcdefghijk")))
        store.call(0, DEEDS["strike"], "a", 1)
        before = self.told(store)
        for arguments in ((0, DEEDS["put"], "kk", 1), (0, DEEDS["put"], "z", 1), (0, DEEDS["put"], "a", 0),
                          (7, DEEDS["put"], "a", 1)):
            with self.assertRaises((TooMany, BadWord, BadValue, NoVersion)):
                store.call(*arguments)
        self.assertIsInstance(store.merge(known_plan("careful"), 0, 1, store.call(0, DEEDS["set"], "a", 9)[0]), Clash)
        store.forget(2)
        with self.assertRaises(NoVersion):
            store.forget(2)
        self.assertEqual(self.told(store), before)
        self.assertEqual(store.call(0, DEEDS["has"], "a", 1)[0], 3)

    def told(self, store):
        """What a store tells of its versions."""
        return [store.kept_versions(), store.stored()] + [
            (store.tree_at(number).rows, store.new_places(number)) for number in store.kept_versions()]

    def test_equal_calls_on_equal_objects(self):
        source = seeded(253)
        for _ in range(20):
            tree = some_tree(source, "ab", 6)
            stores = [Versions(tree), Versions(tree)]
            for _ in range(6):
                routine, (word, _) = some_deed(source), some_pair(source, "ab")
                told = [store.call(store.kept_versions()[-1], routine, word, 2) for store in stores]
                self.assertEqual(told[0], told[1])
            self.assertEqual(self.told(stores[0]), self.told(stores[1]))


class ErrorTest(unittest.TestCase):
    def store(self):
        """A store with the versions 0, 1 and 3."""
        store = Versions(Tree.of("ab", [("a", 1)]))
        for word in ("b", "aa", "ba"):
            store.call(0, DEEDS["put"], word, 1)
        store.forget(2)
        return store

    def test_no_version(self):
        store = self.store()
        for value in [2, 4, -1, 10 ** 40, True, False, "1", "0"] + any_values():
            if isinstance(value, int) and not isinstance(value, bool) and value in (0, 1, 3):
                continue
            fields = {"number": value}
            for told in (
                (store.tree_at, value), (store.new_places, value), (store.forget, value),
                (store.shared_places, value, 0), (store.shared_places, 0, value), (store.shared_places, value, 2),
                (store.call, value, DEEDS["put"], "z", 0), (store.call, value, DEEDS["put"], "a", 1),
                (store.merge, SETS, value, 2, 4), (store.merge, SETS, 0, value, 2), (store.merge, SETS, 0, 1, value),
            ):
                check_raises(self, NoVersion, fields, *told)
        self.assertEqual(store.kept_versions(), (0, 1, 3))

    def test_wrong_words_and_values(self):
        store = self.store()
        for value in ["z", "A", "a" * 201] + any_values():
            if not isinstance(value, str) or value.strip("ab") or len(value) > 200:
                check_raises(self, BadWord, {"number": 0}, store.call, 0, DEEDS["put"], value, 0)
        for value in [0, 10, True, None, "1"] + any_values():
            if not isinstance(value, int) or isinstance(value, bool) or not 1 <= value <= 9:
                check_raises(self, BadValue, {"number": 0}, store.call, 0, DEEDS["put"], "a", value)

    def test_too_many_places(self):
        letters = "abcdefghijk"
        store = Versions(Tree(letters, long_rows(letters)))
        fields = {"what": "places", "many": 2002, "most": 2000}
        check_raises(self, TooMany, fields, store.call, 0, DEEDS["put"], "kk", 1)
        check_raises(self, TooMany, {**fields, "many": 2001}, store.call, 0, DEEDS["put"], "k", 1)
        self.assertEqual([store.kept_versions(), store.stored()], [(0,), 2000])
        fewer = Versions(Tree(letters, long_rows(letters)[:-1]))
        self.assertEqual(fewer.call(0, DEEDS["put"], "k", 1), (1, "yes"))

    def test_too_many_places_in_a_merge(self):
        for one, other in ((1000, 999), (1000, 1000)):
            sides = two_wide_sides(one, other)
            root = Tree("abcdefghijkl", [("", None, False)])
            store = Versions(sides[0])
            # The base and the other side are made by calls: a cut at each letter, and the places one by one.
            cut = Routine.read("turn:\n    if next:\n        cut\nup:\n    if at root and next:\n        cut")
            number = 0
            for letter in "abcdef":
                number, _ = store.call(number, cut, letter, 1)
            base = number
            self.assertEqual(store.tree_at(base), root)
            for at in range(0, other, 200):
                word = sides[1].letters[6 + at // 200] * min(200, other - at)
                marks = Routine.read("down:\n    if not at root:\n        mark\n    if not next:\n        make\n"
                                     "turn:\n    mark")
                number, _ = store.call(number, marks, word, 1)
            self.assertEqual(store.tree_at(number), sides[1])
            if one + other == 1999:
                made = store.merge(SETS, base, 0, number)
                self.assertEqual([store.tree_at(made).size, store.new_places(made)], [2000, 1])
            else:
                fields = {"what": "places", "many": 2001, "most": 2000}
                check_raises(self, TooMany, fields, store.merge, SETS, base, 0, number)

    def test_500_versions_and_one_more(self):
        store = Versions(ROOT)
        for number in range(1, 500):
            self.assertEqual(store.call(0, DEEDS["has"], "a", 1), (number, "no"))
        fields = {"what": "versions", "many": 501, "most": 500}
        check_raises(self, TooMany, fields, store.call, 0, DEEDS["has"], "a", 1)
        check_raises(self, TooMany, fields, store.merge, SETS, 0, 1, 2)
        # What is wrong with the call itself comes first, and a clash is no version.
        check_raises(self, BadWord, {"number": 0}, store.call, 0, DEEDS["has"], "z", 1)
        check_raises(self, NoVersion, {"number": 500}, store.call, 500, DEEDS["has"], "z", 1)
        self.assertEqual([len(store.kept_versions()), store.forget(7)], [500, 0])
        self.assertEqual(store.call(0, DEEDS["put"], "a", 1), (500, "yes"))
        store.forget(8)
        self.assertEqual(store.call(0, DEEDS["put"], "a", 2), (501, "yes"))
        self.assertEqual(store.merge(SETS, 0, 500, 501).place, "a")
        check_raises(self, TooMany, fields, store.merge, SETS, 0, 0, 501)
        store.forget(501)
        self.assertEqual(store.merge(SETS, 0, 0, 500), 502)

    def test_places_ahead_of_versions(self):
        letters = "abcdefghijk"
        with unittest.mock.patch("treeshed.storing.MOST_VERSIONS", 1):
            store = Versions(Tree(letters, long_rows(letters)))
            check_raises(self, TooMany, {"what": "places", "many": 2002}, store.call, 0, DEEDS["put"], "kk", 1)
            fields = {"what": "versions", "many": 2, "most": 1}
            check_raises(self, TooMany, fields, store.call, 0, DEEDS["has"], "kk", 1)

    def test_letters_are_those_of_the_tree(self):
        store = Versions(Tree.of("ba", [("a", 1)]))
        self.assertEqual(store.tree_at(store.merge(SETS, 0, 0, 0)).letters, "ba")
        self.assertRaises(OtherLetters, merged, SETS, store.tree_at(0), ROOT, ROOT)


def new_by_a_call(tree, routine, word, value):
    """How many new places a call has, by [30] alone."""
    behind = call(tree, routine, word, value)[1]
    places = [word[:length] for length in range(len(word) + 1) if behind.has(word[:length])]
    return len([place for place in places if not tree.has(place) or part(tree, place) != part(behind, place)])


class WorstTest(unittest.TestCase):
    def test_no_small_tree_has_more_and_one_has_as_many(self):
        source = seeded(254)
        many = {}
        for number in range(150):
            rule = rule_of_few(source)
            routine = some_deed(source) if number % 2 else Routine.read(source.choice([
                "down:\n    if not next and others == 0:\n        make\nturn:\n    flag = true",
                "down:\n    if flag:\n        make\n    flag = true\nup:\n    if own:\n        cut",
                "turn:\n    flag = true\nup:\n    if others > 1:\n        flag = true\n    else:\n        stop",
                "down:\n    if not marked:\n        stop\n    unmark\nturn:\n    if next:\n        cut",
                "down:\n    if not next:\n        make\n        stop", "up:\n    if others == 1:\n        mark"]))
            letters = source.choice([0, 1, 2, 2, 3])
            worst = worst_new(routine, rule, letters)
            shown = most_new(routine, rule, letters)
            many[worst] = many.get(worst, 0) + 1
            if shown is None:
                self.assertEqual([worst, sum(len(all_trees(rule, "ab", size, [1])) for size in (1, 2, 3))], [0, 0])
                continue
            tree, word, value = shown
            self.assertIs(shown.__class__, tuple)
            self.assertTrue(rule.keeps(tree))
            self.assertEqual([len(word), new_by_a_call(tree, routine, word, value)], [letters, worst])
            store = Versions(tree)
            self.assertEqual(store.new_places(store.call(0, routine, word, value)[0]), worst)
            words = ["".join(told) for told in itertools.product("ab", repeat=letters)]
            for size in (1, 2, 3):
                trees = all_trees(rule, "ab", size, [1, 2] if size < 3 else [1])
                for tree in trees if len(trees) < 60 else source.sample(trees, 60):
                    for word in words:
                        self.assertLessEqual(new_by_a_call(tree, routine, word, 1), worst)
        self.assertGreater(len(many), 4)

    def test_small_trees_that_have_just_so_many(self):
        # Known ones, for which three places are enough.
        self.assertEqual([worst_new(DEEDS["set"], PLAIN, letters) for letters in (0, 1, 2, 100)], [1, 2, 3, 101])
        self.assertEqual([worst_new(DEEDS["longest"], PLAIN, letters) for letters in (0, 5)], [0, 0])
        only = Rule([(False, False, 0)], [])
        self.assertEqual([worst_new(DEEDS["strike"], only, letters) for letters in (0, 1, 3)], [0, 0, 0])
        self.assertEqual([worst_new(DEEDS["put"], only, letters) for letters in (0, 1, 3)], [1, 2, 4])

    def test_what_happens_below_is_counted_as_far_as_it_is_there(self):
        # The child that the call has changed is cut off on the way up: the root alone is new.
        cuts = Routine.read("turn:\n    flag = true\nup:\n    cut\n    flag = true\n    stop")
        rule = Rule([(False, False, 1)], [(False, False, 0)])
        self.assertEqual([worst_new(cuts, rule, letters) for letters in (0, 1, 2)], [1, 1, 1])
        # A child that was made, and that the call does not go into, is new, too.
        makes = Routine.read("down:\n    if not next:\n        make\n    stop")
        self.assertEqual([worst_new(makes, PLAIN, letters) for letters in (0, 1, 2, 9)], [0, 2, 2, 2])
        self.assertEqual(most_new(makes, PLAIN, 2)[0].below(""), "")
        # A child that was there, and that the call does not go into, is not.
        flags = Routine.read("down:\n    flag = true\n    stop")
        self.assertEqual([worst_new(flags, rule, letters) for letters in (0, 1, 2)], [0, 1, 1])
        # A made place that ends as the one ahead would be: it was missing, so it is new.
        self.assertEqual(worst_new(Routine.read("down:\n    if not next:\n        make"), PLAIN, 3), 4)

    def test_the_worst_call_may_need_other_children_and_another_value(self):
        routine = Routine.read("turn:\n    if others > 1:\n        flag = true\nup:\n    if marked and not own:\n"
                               "        flag = true")
        rule = known_rule("bare")
        self.assertEqual([worst_new(routine, rule, letters) for letters in (0, 1, 4)], [1, 2, 5])
        tree, word, value = most_new(routine, rule, 1)
        self.assertEqual(new_by_a_call(tree, routine, word, value), 2)
        self.assertGreaterEqual(tree.size, 4)

    def test_long_words(self):
        for name, rule in itertools.product(("has", "put", "strike", "longest"), ("plain", "free")):
            for letters in (99, 100):
                self.assertLess(seconds_of(worst_new, DEEDS[name], known_rule(rule), letters), 3)
                tree, word, value = most_new(DEEDS[name], known_rule(rule), letters)
                many = new_by_a_call(tree, DEEDS[name], word, value)
                self.assertEqual([len(word), many], [letters, worst_new(DEEDS[name], known_rule(rule), letters)])
                self.assertEqual(many, 0 if name in ("has", "longest") else letters + 1)

    def test_rules_without_trees(self):
        for rule in (Rule([], []), Rule([], [(True, False, 0)]), Rule([(True, False, 1)], [(True, False, 1)])):
            for letters in (0, 1, 100):
                self.assertEqual(worst_new(DEEDS["put"], rule, letters), 0)
                self.assertIsNone(most_new(DEEDS["put"], rule, letters))

    def test_wrong_numbers_of_letters(self):
        for value in [-1, 101, 10 ** 40, True, False, "3", None] + any_values():
            if not isinstance(value, int) or isinstance(value, bool) or not 0 <= value <= 100:
                for told in (worst_new, most_new):
                    check_raises(self, BadSize, {"size": value}, told, DEEDS["put"], PLAIN, value)
                    check_raises(self, BadSize, {"size": value}, told, WIDE, known_rule("free"), value)

    def test_too_many_tables(self):
        free = known_rule("free")
        many = 0
        for most in range(1, 40):
            with unittest.mock.patch("treeshed.closing.MOST_TABLES", most):
                try:
                    worst_new(WIDE, free, 0)
                    many = most
                    break
                except TooMany as error:
                    self.assertEqual([error.what, error.many, error.most], ["tables", most + 1, most])
        self.assertGreater(many, 10)
        # They are the tables of the values 1 and 2, for any number of letters.
        for letters, told in itertools.product((0, 1, 100), (worst_new, most_new)):
            with unittest.mock.patch("treeshed.closing.MOST_TABLES", many):
                told(WIDE, free, letters)
            with unittest.mock.patch("treeshed.closing.MOST_TABLES", many - 1):
                check_raises(self, TooMany, {"what": "tables", "many": many}, told, WIDE, free, letters)

    def test_equal_calls_are_equal(self):
        source = seeded(255)
        for _ in range(15):
            routine, rule, letters = some_deed(source), rule_of_few(source), source.randint(0, 4)
            self.assertEqual(most_new(routine, rule, letters), most_new(routine, rule, letters))
            self.assertEqual(worst_new(routine, rule, letters), worst_new(routine, rule, letters))
