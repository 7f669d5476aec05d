"""Promises 2, 15, 18, 19 and 47: histories, what is in the way, what undoing leaves, and least rows."""

import copy
import unittest

from tests.helpers import alike, any_values, check_raises, long_rows, ranks, seconds_of, seeded, some_letters
from tests.test_books import FIVE, done_on_map
from treeshed.answers import kind_of_answer
from treeshed.books import Book, known_book, known_deeds
from treeshed.errors import BadValue, BadWord, InTheWay, NoDeed, NoNumber, TooMany
from treeshed.histories import answers_of, in_the_way, least_row, undone
from treeshed.questions import relation_of
from treeshed.rules import known_rule
from treeshed.trees import Tree

PLAIN = known_rule("plain")
DEEDS = known_deeds()
BOOK = known_book()
ROOT = Tree("ab", [("", None, False)])


def some_history(source, letters, many, longest=3):
    """A history of the five deeds."""
    words = ["".join(source.choice(letters) for _ in range(source.randint(0, longest))) for _ in range(max(2,
        many // 3))]
    return [(source.choice(FIVE), source.choice(words), source.randint(1, 3)) for _ in range(many)]


def some_map(source, history):
    """A dict from some of the words of a history to values."""
    return {word: source.randint(1, 3) for _, word, _ in history if source.random() < 0.4}


def key_of(history, answers, one, other):
    """The key of two deeds of a history, as they answer in it."""
    (first, word, value), (second, later, beside) = history[one], history[other]
    kinds = [kind_of_answer(answers[number]) for number in (one, other)]
    return (first, kinds[0], second, kinds[1], relation_of((word, later)), value == beside)


def first_in_the_way(rows, history, answers, number):
    """The least later number for whose key the rows do not tell True."""
    for later in range(number + 1, len(history)):
        if rows.get(key_of(history, answers, number, later)) is not True:
            return later
    return None


def least_of(rows, letters, history, answers):
    """The least row, from a dict of keys."""
    left, row = list(range(len(history))), []
    while left:
        able = [number for number in left if all(
            rows.get(key_of(history, answers, other, number)) is True
            and rows.get(key_of(history, answers, number, other)) is True for other in left if other < number)]
        least = min(able, key=lambda number: (
            history[number][0], ranks(history[number][1], letters), history[number][2], number))
        row.append(least)
        left.remove(least)
    return tuple(row)


def some_book(source, history, answers):
    """A book that tells anything of the keys of a history."""
    keys = [key_of(history, answers, one, other) for one in range(len(history)) for other in range(len(history))]
    return Book({key: source.random() < 0.8 for key in keys if source.random() < 0.9})


class SessionTest(unittest.TestCase):
    def test_the_session(self):
        history = [("put", "a", 1), ("has", "b", 1), ("put", "ab", 2), ("strike", "a", 1)]
        self.assertTrue(alike(answers_of(DEEDS, ROOT, history), ("yes", "no", "yes", "yes")))
        shown = [in_the_way(BOOK, DEEDS, ROOT, history, number) for number in range(4)]
        self.assertTrue(alike(shown, [3, None, None, None]))
        shown = [undone(BOOK, DEEDS, ROOT, history, 2) == ROOT, undone(BOOK, DEEDS, ROOT, history, 3).word_items()]
        shown.append(least_row(BOOK, DEEDS, ROOT, history))
        self.assertTrue(alike(shown, [True, (("a", 1), ("ab", 2)), (1, 0, 2, 3)]))


class MapTest(unittest.TestCase):
    def test_histories_over_maps(self):
        source = seeded(121)
        rows = BOOK.told_rows()
        refused = 0
        for _ in range(250):
            letters = some_letters(source, source.randint(2, 4))
            history = some_history(source, letters, source.randint(0, 12))
            words = some_map(source, history)
            tree = PLAIN.tree_of(letters, list(words.items()))
            answers = done_on_map(words, history)[0]
            told = source.choice([list, tuple])(history)
            self.assertTrue(alike(answers_of(DEEDS, tree, told), tuple(answers)))
            self.assertTrue(alike(
                least_row(BOOK, DEEDS, tree, told), least_of(rows, letters, history, answers)))
            for number in range(len(history)):
                later = first_in_the_way(rows, history, answers, number)
                self.assertTrue(alike(in_the_way(BOOK, DEEDS, tree, told, number), later))
                if later is not None:
                    refused += 1
                    check_raises(self, InTheWay, {"number": later}, undone, BOOK, DEEDS, tree, told, number)
                    continue
                others = history[:number] + history[number + 1:]
                behind = done_on_map(words, others)
                left = undone(BOOK, DEEDS, tree, told, number)
                self.assertEqual(left, PLAIN.tree_of(letters, list(behind[1].items())))
                # [18]: the others answer as before, and so does the deed behind them.
                self.assertEqual(behind[0], answers[:number] + answers[number + 1:])
                self.assertEqual(done_on_map(words, others + [history[number]]), (
                    behind[0] + [answers[number]], done_on_map(words, history)[1]))
        self.assertGreater(refused, 100)

    def test_least_rows_leave_and_answer_the_same(self):
        source = seeded(122)
        for _ in range(150):
            history = some_history(source, "ab", source.randint(2, 12))
            words = some_map(source, history)
            tree = PLAIN.tree_of("ab", list(words.items()))
            answers, behind = done_on_map(words, history)
            row = least_row(BOOK, DEEDS, tree, history)
            shown = done_on_map(words, [history[number] for number in row])
            self.assertEqual(shown, ([answers[number] for number in row], behind))
            self.check_neighbours(source, tree, history, [history[number] for number in row])

    def check_neighbours(self, source, tree, history, least):
        """Checks that histories that go over into one another tell the same deeds by their least rows."""
        rows = BOOK.told_rows()
        for _ in range(8):
            at = source.randrange(len(history) - 1)
            answers = answers_of(DEEDS, tree, history)
            if all(rows.get(key_of(history, answers, *pair)) for pair in ((at, at + 1), (at + 1, at))):
                history = history[:at] + [history[at + 1], history[at]] + history[at + 2:]
        self.assertEqual([history[number] for number in least_row(BOOK, DEEDS, tree, history)], least)

    def test_books_that_are_not_right(self):
        source = seeded(123)
        for _ in range(200):
            history = some_history(source, "cba", source.randint(1, 9))
            answers = answers_of(DEEDS, Tree.of("cba", []), history)
            book = some_book(source, history, answers)
            tree = Tree.of("cba", [])
            self.assertEqual(
                least_row(book, DEEDS, tree, history), least_of(book.told_rows(), "cba", history, answers))
            for number in range(len(history)):
                later = first_in_the_way(book.told_rows(), history, answers, number)
                self.assertEqual(in_the_way(book, DEEDS, tree, history, number), later)

    def test_the_order_of_the_least_row(self):
        free = Book({key: True for key in BOOK.told_rows()})
        history = [("put", "c", 2), ("put", "ba", 1), ("has", "b", 9), ("put", "b", 3), ("put", "a", 3),
            ("has", "b", 9),
                   ("get", "", 1), ("has", "", 3)]
        tree = Tree.of("bac", [])
        self.assertEqual(least_row(free, DEEDS, tree, history), (6, 7, 2, 3, 5, 1, 4, 0))
        self.assertEqual(least_row(BOOK, DEEDS, tree, []), ())
        nothing = Book({})
        self.assertEqual(least_row(nothing, DEEDS, tree, history), tuple(range(8)))
        self.assertEqual([in_the_way(nothing, DEEDS, tree, history, number) for number in (0, 6, 7)], [1, 7, None])

    def test_values_and_numbers_order_deeds_that_are_alike(self):
        rows = {("put", one, "put", other, "same", same): True for one in ("yes", "no") for other in ("yes", "no")
                for same in (True, False)}
        history = [("put", "a", 3), ("put", "a", 1), ("put", "a", 3), ("put", "a", 1)]
        self.assertEqual(least_row(Book(rows), DEEDS, ROOT, history), (1, 3, 0, 2))


class AnyDeedTest(unittest.TestCase):
    def test_other_deeds_and_trees(self):
        tree = Tree("ab", [("", None, True), ("a", 4, False), ("aa", None, True)])
        history = [("longest", "aab", 1), ("begins", "aa", 1), ("get", "a", 1), ("strike", "a", 9), ("longest", "a", 2)]
        self.assertTrue(alike(answers_of(DEEDS, tree, history), (("at", "a"), "yes", ("is", 4), "yes", None)))
        self.assertTrue(alike(answers_of(DEEDS, tree, []), ()))

    def test_nothing_is_changed_or_kept(self):
        history = [("put", "a", 1), ("put", "b", 2)]
        deeds = known_deeds()
        before = [copy.copy(history), list(deeds), BOOK.told_rows()]
        shown = [undone(BOOK, deeds, ROOT, history, 0), least_row(BOOK, deeds, ROOT, history)]
        self.assertEqual([history, list(deeds), BOOK.told_rows(), ROOT.size], before + [1])
        self.assertTrue(alike(shown, [undone(BOOK, deeds, ROOT, tuple(history), 0), (0, 1)]))


class ErrorTest(unittest.TestCase):
    def calls(self, tree, history):
        """The functions with this history, and a number that it has, if it has any."""
        return [(answers_of, DEEDS, tree, history), (in_the_way, BOOK, DEEDS, tree, history, 0),
                (undone, BOOK, DEEDS, tree, history, 0), (least_row, BOOK, DEEDS, tree, history)]

    def test_200_and_201_deeds(self):
        history = [("put", "a", 1)] * 200
        self.assertEqual(len(answers_of(DEEDS, ROOT, history)), 200)
        for call in self.calls(ROOT, history + [("none", "c", 0)]):
            check_raises(self, TooMany, {"what": "deeds", "many": 201, "most": 200}, *call)

    def test_no_deeds(self):
        for name in ["", "puts", "Put", ("put",)] + any_values():
            for call in self.calls(ROOT, [("put", "a", 1), (name, "c", 0), (None, "a", 1)]):
                check_raises(self, NoDeed, {"name": name}, *call)
        check_raises(self, NoDeed, {"name": "put"}, answers_of, {}, ROOT, [("put", "a", 1)])

    def test_wrong_words_and_values(self):
        for word in ["c", "A", "a" * 201, " "] + [value for value in any_values() if value not in ("", "a", "ab",
            "ba")]:
            for call in self.calls(ROOT, [("put", "a", 1), ("put", word, 0), ("none", "a", 1)]):
                check_raises(self, BadWord, {"number": 1}, *call)
        for value in [0, 10, True] + [value for value in any_values() if not alike(value, 1) and not alike(value, 2)]:
            for call in self.calls(ROOT, [("put", "a", 1), ("put", "a", value), ("put", "c", 1)]):
                check_raises(self, BadValue, {"number": 1}, *call)

    def test_no_numbers(self):
        history = [("put", "a", 1), ("none", "c", 0)]
        others = [value for value in any_values() if not alike(value, 0) and not alike(value, 1)]
        for number in [-1, 2, 10 ** 40] + others:
            check_raises(self, NoNumber, {"number": number}, in_the_way, BOOK, DEEDS, ROOT, history, number)
            check_raises(self, NoNumber, {"number": number}, undone, BOOK, DEEDS, ROOT, history, number)
        for number in (-1, 201, True, None):
            check_raises(self, NoNumber, {"number": number}, undone, BOOK, DEEDS, ROOT, [None] * 201, number)
        for number in (0, 1, True):
            check_raises(self, NoNumber, {"number": number}, undone, BOOK, DEEDS, ROOT, [], number)

    def test_too_many_places(self):
        letters = "abcdefghij"
        tree = Tree(letters, long_rows(letters)[:1900])
        history = [("put", "b" + "a" * 50, 1), ("put", "b" + "a" * 150, 1), ("put", "c" * 200, 1)]
        fields = {"what": "places", "many": 2050, "most": 2000}
        for call in self.calls(tree, history):
            check_raises(self, TooMany, fields, *call)
        for call in self.calls(tree, history + [("put", "a", 0)]):
            check_raises(self, BadValue, {"number": 3}, *call)

    def test_too_many_places_only_without_the_deed(self):
        letters = "abcdefghij"
        rows = [row if row[0] != "b" + "j" * 199 else (row[0], 5, False) for row in long_rows(letters)]
        tree = Tree(letters, [(place, 1 if len(place) in (0, 200) else None, False) for place, _, _ in rows])
        word = "b" + "j" * 199
        history = [("strike", word, 1), ("put", "c" + "a" * 150, 1)]
        self.assertEqual(answers_of(DEEDS, tree, history), ("yes", "yes"))
        check_raises(self, TooMany, {"what": "places", "many": 2150, "most": 2000}, undone, BOOK, DEEDS, tree, history,
            0)
        check_raises(self, InTheWay, {"number": 1}, undone, Book({}), DEEDS, tree, history, 0)


class TimeTest(unittest.TestCase):
    def test_200_deeds_with_words_of_200_letters(self):
        source = seeded(124)
        words = ["a" * 190 + "".join(source.choice("ab") for _ in range(10)) for _ in range(60)]
        history = [(source.choice(FIVE), source.choice(words), source.randint(1, 3)) for _ in range(200)]
        words_behind = done_on_map({}, history)
        self.assertEqual(list(answers_of(DEEDS, ROOT, history)), words_behind[0])
        for call in (
            (answers_of, DEEDS, ROOT, history), (in_the_way, BOOK, DEEDS, ROOT, history, 0),
            (undone, BOOK, DEEDS, ROOT, history, 199), (least_row, BOOK, DEEDS, ROOT, history),
        ):
            self.assertLess(seconds_of(*call), 3)
