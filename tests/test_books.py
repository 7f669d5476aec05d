"""Promises 2, 15 to 17 and 46: books, keys that come up, and keys that commute."""

import copy
import itertools
import unittest

from tests.drawing import some_routine
from tests.helpers import alike, any_values, check_raises, seconds_of, seeded
from treeshed.answers import kind_of_answer
from treeshed.books import Book, booked, known_book, known_deeds, pairs
from treeshed.errors import BadName, BadRelation, BadValues, TooMany
from treeshed.plays import played
from treeshed.questions import relation_of
from treeshed.routines import Routine
from treeshed.rules import Rule, all_trees, known_rule
from treeshed.trees import Tree

PLAIN, FREE, BARE = known_rule("plain"), known_rule("free"), known_rule("bare")
RELATIONS = ("same", "within", "around", "apart")
FIVE = ("has", "get", "put", "set", "strike")
ASPECTS = ("answers", "trees", "places", "shared")
PAIRS = {"same": ("a", "a"), "within": ("a", "ab"), "around": ("ab", "a"), "apart": ("a", "b")}
TEXTS = {
    "has": "turn:\n    if at end and marked:\n        return yes\n    return no",
    "get": "turn:\n    if at end and marked:\n        return value\n    return no",
    "put": "down:\n    if not next:\n        make\nturn:\n    if marked:\n        return no\n    mark\n    return yes",
    "begins": "turn:\n    if not at end:\n        return no\n    if at root and not marked and others == 0:\n"
              "        return no\n    return yes",
    "set": "down:\n    if not next:\n        make\nturn:\n    if own:\n        return no\n    mark\n    return yes",
    "strike": "turn:\n    if not at end or not marked:\n        return no\n    unmark\n"
              "    if at root or not others == 0:\n        return yes\nup:\n    cut\n"
              "    if at root or marked or not others == 0:\n        return yes",
    "longest": "down:\n    if marked:\n        keep\nturn:\n    if marked:\n        keep\n    return p",
}

# A routine that makes very many tables.
WIDE = Routine.read(
    "up:\n    if not own:\n        if next:\n            cut\n        if next:\n            flag = true\n"
    "            unmark\n    if flag:\n        if others == 1:\n            stop\n            if next:\n"
    "                cut\n        else:\n            return node\n        if next:\n            mark\n"
    "            stop\n        else:\n            unmark\n            if others > 1:\n                unmark\n"
    "            else:\n                flag = false\n                return value\n    flag = true")


def on_map(name, words, word, value):
    """What a deed answers on a dict from words to values, which it changes."""
    held = words.get(word)
    if name == "has":
        return "no" if held is None else "yes"
    if name == "get":
        return "no" if held is None else ("is", held)
    if name == "strike":
        words.pop(word, None)
        return "no" if held is None else "yes"
    if held is not None and (name == "put" or held == value):
        return "no"
    words[word] = value
    return "yes"


def done_on_map(words, deeds):
    """The answers of deeds and the dict behind them."""
    behind = dict(words)
    return [on_map(name, behind, word, value) for name, word, value in deeds], behind


def map_keys():
    """What a right book tells of the five deeds, from plain dicts."""
    found = {}
    values = (None, 1, 2, 3)
    for relation, pair in PAIRS.items():
        maps = [dict(zip(pair, held)) for held in itertools.product(values, values)]
        maps = [{word: value for word, value in words.items() if value is not None} for words in maps]
        for first, second, alike_values, words in itertools.product(FIVE, FIVE, (True, False), maps):
            deeds = [(first, pair[0], 1), (second, pair[1], 1 if alike_values else 2)]
            answers, behind = done_on_map(words, deeds)
            turned, other = done_on_map(words, deeds[::-1])
            key = (first, kind_of_answer(answers[0]), second, kind_of_answer(answers[1]), relation, alike_values)
            found[key] = found.get(key, True) and answers == turned[::-1] and behind == other
    return found


def shown_pairs(first, second, trees, word_pairs, alike_values):
    """For the kinds that come up on these trees: the aspects that hold on all of them."""
    found = {}
    for tree, pair in itertools.product(trees, word_pairs):
        calls = [(first, pair[0], 1), (second, pair[1], 1 if alike_values else 2)]
        one, other = played(tree, calls), played(tree, calls[::-1])
        holds = (one.answers == other.answers[::-1], one.trees[-1] == other.trees[-1], one.old == other.old,
                 one.kept_shared == other.kept_shared)
        kinds = tuple(kind_of_answer(answer) for answer in one.answers)
        told = found.setdefault(kinds, set(ASPECTS))
        told -= {aspect for aspect, held in zip(ASPECTS, holds) if not held}
    return {kinds: tuple(aspect for aspect in ASPECTS if aspect in told) for kinds, told in found.items()}


class SessionTest(unittest.TestCase):
    def test_the_session(self):
        deeds, book = known_deeds(), known_book()
        told = pairs(deeds["put"], deeds["strike"], PLAIN, "same", True, (1, 2, 3))
        self.assertEqual(told, {("no", "yes"): ("places", "shared"), ("yes", "yes"): ("places", "shared")})
        shown = [book.commutes("put", "yes", "has", "no", "apart", True)]
        shown += [book.commutes("put", "yes", "has", later, "same", True) for later in ("yes", "no")]
        shown += [book.commutes("set", "yes", "set", "yes", "same", same) for same in (True, False)]
        self.assertTrue(alike(shown, [True, False, None, None, False]))


class BookTest(unittest.TestCase):
    KEYS = [("put", "yes", "has", "no", "same", True), ("a", "is", "b", "at", "apart", False),
        ("a", "x", "", "y", "z", True)]

    def test_told_rows(self):
        rows = dict(zip(self.KEYS, (True, False, True)))
        book = Book(rows)
        self.assertTrue(alike(book.told_rows(), rows))
        self.assertFalse(hasattr(book, "rows"))
        self.assertEqual(Book({}).told_rows(), {})

    def test_rows_are_neither_changed_nor_kept(self):
        rows = dict(zip(self.KEYS, (True, False, True)))
        before = dict(rows)
        book = Book(rows)
        rows[self.KEYS[0]] = False
        rows.pop(self.KEYS[1])
        self.assertEqual(book.told_rows(), before)
        told = book.told_rows()
        told.clear()
        self.assertIsNot(book.told_rows(), book.told_rows())
        self.assertEqual(book.told_rows(), before)

    def test_equal_and_unlike_books(self):
        rows = dict(zip(self.KEYS, (True, False, True)))
        book = Book(rows)
        self.assertTrue(book == Book(dict(list(rows.items())[::-1])))
        for other in [Book({}), Book({**rows, self.KEYS[0]: False}), Book({self.KEYS[0]: True}), rows] + any_values():
            self.assertFalse(book == other)
            self.assertFalse(other == book)

    def test_commutes(self):
        rows = dict(zip(self.KEYS, (True, False, True)))
        book = Book(rows)
        for key, told in rows.items():
            self.assertIs(book.commutes(*key), told)
            for number in range(6):
                for value in any_values() + [1, 0, 1.0, "none", b"put", ("put",)]:
                    other = list(key[:number]) + [value] + list(key[number + 1:])
                    if not alike(value, key[number]):
                        self.assertIsNone(book.commutes(*other), other)

    def test_1_is_no_bool(self):
        book = Book({self.KEYS[0]: True, self.KEYS[1]: True})
        self.assertIsNone(book.commutes(*self.KEYS[0][:5], 1))
        self.assertIsNone(book.commutes(*self.KEYS[1][:5], 0))
        self.assertIs(book.commutes(*self.KEYS[1]), True)


class DeedsTest(unittest.TestCase):
    def test_known_deeds(self):
        deeds = known_deeds()
        self.assertEqual({name: routine.text() for name, routine in deeds.items()}, TEXTS)
        deeds.clear()
        self.assertEqual(len(known_deeds()), 7)


class PairsTest(unittest.TestCase):
    def test_known_deeds_on_maps(self):
        deeds = known_deeds()
        trees = {relation: [] for relation in RELATIONS}
        for relation, pair in PAIRS.items():
            for words in {pair, pair[::-1]} | {(pair[0], pair[1], other) for other in ("", "aa", "abb", "bb")}:
                for held in itertools.product((None, 1, 2, 3), repeat=2):
                    items = [(word, value) for word, value in dict(zip(words, held)).items() if value is not None]
                    items += [(word, 3) for word in words[2:]]
                    trees[relation].append(PLAIN.tree_of("ab", items))
        for first, second, relation in itertools.product(FIVE, ("get", "put", "strike"), RELATIONS):
            for alike_values in (True, False):
                told = pairs(deeds[first], deeds[second], PLAIN, relation, alike_values, (1, 2, 3))
                shown = shown_pairs(deeds[first], deeds[second], trees[relation], [PAIRS[relation]], alike_values)
                self.assertEqual(set(told), set(shown))
                for kinds, aspects in told.items():
                    # These trees show all unlike answers and trees, but not all places and parts.
                    self.assertEqual(aspects[:2] == ASPECTS[:2], shown[kinds][:2] == ASPECTS[:2])
                    self.assertLessEqual(set(aspects), set(shown[kinds]))

    def test_places_and_shared_places(self):
        # Put ab, strike aa: if aa is struck first, the place a goes, and another one comes in its place.
        deeds = known_deeds()
        for first, second, relation, unlike in (
            ("put", "put", "apart", []), ("strike", "strike", "within", []),
            ("put", "strike", "apart", [("yes", "yes")]),
            ("put", "strike", "within", [("yes", "yes")]), ("strike", "put", "around", [("yes", "yes")]),
            ("set", "put", "around", []),
        ):
            shown = pairs(deeds[first], deeds[second], PLAIN, relation, True, (1, 2, 3))
            expected = {
                kinds: ("answers", "trees", "shared") if kinds in unlike else ASPECTS
                for kinds in itertools.product(("yes", "no"), repeat=2)}
            told = [dict(sorted(rows.items())) for rows in (shown, expected)]
            self.assertTrue(alike(*told), (first, second, relation))

    def test_drawn_routines_on_small_trees(self):
        source = seeded(111)
        words = ["", "a", "b", "aa", "ab"]
        deeds = list(known_deeds().values())
        equal = 0
        for _ in range(60):
            first, second = [source.choice(deeds + [some_routine(source)] * 4) for _ in range(2)]
            rule = source.choice([PLAIN, BARE, FREE])
            relation, same = source.choice(RELATIONS), source.random() < 0.5
            told = pairs(first, second, rule, relation, same, [1])
            trees = [tree for size in (1, 2) for tree in all_trees(rule, "ab", size, [1])]
            word_pairs = [pair for pair in itertools.product(words, words) if relation_of(pair) == relation]
            shown = shown_pairs(first, second, trees, word_pairs, same)
            self.assertLessEqual(set(shown), set(told))
            for kinds in shown:
                self.assertLessEqual(set(told[kinds]), set(shown[kinds]))
                self.assertEqual(told[kinds], tuple(aspect for aspect in ASPECTS if aspect in told[kinds]))
            equal += told == shown
        self.assertGreater(equal, 30)

    def test_values_alike_or_not_and_rules_without_trees(self):
        deeds = known_deeds()
        for same, told in ((True, {("yes", "no"): ("trees", "places", "shared")}),
            (False, {("yes", "yes"): ("places", "shared")})):
            shown = pairs(deeds["set"], deeds["set"], Rule([(False, False, 0)], []), "same", same, [9])
            self.assertIn(list(told)[0], shown)
            self.assertEqual(shown, {kinds: shown[kinds] for kinds in told})
        self.assertEqual(pairs(deeds["set"], deeds["set"], Rule([], []), "same", True, [1]), {})

    def test_dicts_are_new(self):
        deeds = known_deeds()
        told = [pairs(deeds["has"], deeds["put"], PLAIN, "apart", True, values) for values in ([1, 2], (1, 2))]
        self.assertEqual(told[0], told[1])
        told[0].clear()
        self.assertEqual(len(told[1]), 4)

    def test_errors(self):
        deeds = known_deeds()
        put = deeds["put"]
        for relation in ["", "Same", None, 0, ["same"]] + any_values():
            check_raises(self, BadRelation, {"relation": relation}, pairs, put, put, PLAIN, relation, True, [])
        for index, values in ((0, []), (0, [0]), (1, [1, 1]), (2, (1, 2, True)), (0, [None]), (1, [9, 10])):
            check_raises(self, BadValues, {"index": index}, pairs, put, put, PLAIN, "same", True, values)


class BookedTest(unittest.TestCase):
    def test_the_known_book_is_that_of_the_five_deeds(self):
        deeds = known_deeds()
        rows = {}
        for relation in RELATIONS:
            book = booked({name: deeds[name] for name in FIVE}, PLAIN, relation)
            self.assertEqual({key[4] for key in book.told_rows()}, {relation})
            rows.update(book.told_rows())
        self.assertTrue(alike(dict(sorted(known_book().told_rows().items())), dict(sorted(rows.items()))))

    def test_the_known_book_tells_what_dicts_show(self):
        self.assertTrue(alike(dict(sorted(known_book().told_rows().items())), dict(sorted(map_keys().items()))))

    def test_a_thousand_known_books_are_soon_there(self):
        self.assertLess(seconds_of(lambda: [known_book() for _ in range(1000)]), 3)

    def test_known_books_are_equal_and_new_each_time(self):
        books = [known_book(), known_book()]
        self.assertEqual(books[0], books[1])
        self.assertIsNot(books[0], books[1])
        told = books[0].told_rows()
        self.assertIsNot(told, books[0].told_rows())
        expected = dict(told)
        told.clear()
        self.assertTrue(alike([book.told_rows() for book in books + [known_book()]], [expected] * 3))
        # Also what a book holds within is no other book's.
        for held in vars(books[0]).values():
            held.clear()
        self.assertTrue(alike([books[1].told_rows(), known_book().told_rows()], [expected] * 2))

    def test_keys_are_those_of_pairs(self):
        deeds = {name: known_deeds()[name] for name in ("begins", "put", "longest")}
        for relation in ("same", "around"):
            expected = {}
            for first, second, same in itertools.product(deeds, deeds, (True, False)):
                values = (1, 2, 3) if same else (1, 2, 3, 4)
                told = pairs(deeds[first], deeds[second], PLAIN, relation, same, values)
                for (kind, later), aspects in told.items():
                    key = (first, kind, second, later, relation, same)
                    expected[key] = "answers" in aspects and "trees" in aspects
            self.assertEqual(booked(deeds, PLAIN, relation), Book(expected))
            self.assertEqual(set(expected.values()), {True, False})

    def test_errors(self):
        put = known_deeds()["put"]
        wrong = ["", "A", "put1", "a b", "a" * 21, "\u00e9", None, 1, True, ("a",), ()]
        for name in wrong:
            for deeds in ({name: put}, {"a": put, name: put, "": put}):
                check_raises(self, BadName, {"name": name}, booked, deeds, PLAIN, "none")
        for relation in ["", "Same", None, 0, ["same"]] + any_values():
            check_raises(self, BadRelation, {"relation": relation}, booked, {"a" * 20: put}, PLAIN, relation)
            check_raises(self, BadRelation, {"relation": relation}, booked, {}, PLAIN, relation)

    def test_no_deeds(self):
        self.assertEqual(booked({}, FREE, "same"), Book({}))

    def test_deeds_are_neither_changed_nor_kept(self):
        deeds = {name: known_deeds()[name] for name in ("has", "put")}
        before = copy.copy(deeds)
        first = booked(deeds, PLAIN, "apart")
        self.assertEqual(list(deeds.items()), list(before.items()))
        self.assertEqual(first, booked(deeds, PLAIN, "apart"))


class TooManyTest(unittest.TestCase):
    def test_what_judge_raises_is_raised(self):
        fields = {"what": "tables", "many": 1001, "most": 1000}
        check_raises(self, TooMany, fields, pairs, WIDE, WIDE, FREE, "same", False, (1, 2, 3, 4))
        deeds = {"has": known_deeds()["has"], "wide": WIDE}
        check_raises(self, TooMany, fields, booked, deeds, FREE, "same")


class EmptyTest(unittest.TestCase):
    def test_a_root_alone(self):
        tree = Tree("ab", [("", None, False)])
        for name, kinds in (("has", "no"), ("get", "no"), ("put", "yes"), ("set", "yes"), ("strike", "no")):
            show = played(tree, [(known_deeds()[name], "", 1)])
            self.assertEqual(kind_of_answer(show.answers[0]), kinds)
