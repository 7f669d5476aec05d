"""Promises 2, 3 and 39: letters, words, values, places and class Tree."""

import copy
import unittest

from tests.helpers import (
    ALPHABET, alike, any_values, check_raises, long_rows, ranks, seconds_of, seeded, shuffled, some_letters, some_rows,
)
from treeshed.errors import BadItem, BadLetters, BadRow, Lone, NoPlace, TooMany
from treeshed.rules import known_rule
from treeshed.trees import Tree

ROOT = ("", None, False)
NO_LETTERS = [
    "", "a", "aa", "aba", "aB", "AB", "a1", "a b", "ab ", "ab\n", "a-", "a\u00e9", "\u00df\u00e9", ALPHABET + "a",
    ALPHABET + "A", "a" * 26, "ab" * 100, ["a", "b"], ("a", "b"), {"a": "b"}, b"ab", None, True, 2, 0,
]
NO_WORDS = ["c", "abc", "A", "a ", " ", "a\n", "a" * 201, "ab" * 101, None, True, 0, (), [], {}, ("a",), ["a"], b"a"]
NO_VALUES = [0, -1, 10, 100, True, False, "1", "", (), [], [1], {}, 10 ** 40, -10 ** 40]


class SessionTest(unittest.TestCase):
    def test_the_session(self):
        tree = Tree("ba", [("", None, False), ["b", 2, False], ("ab", 1, False), ("a", None, True)])
        self.assertTrue(alike(
            [tree.size, tree.height, tree.word_items(), tree.below(""), tree.row("a"), [row[0] for row in tree.rows]],
            [4, 2, (("b", 2), ("ab", 1)), "ba", ("a", None, True), ["", "b", "a", "ab"]]))
        self.assertTrue(alike(
            [tree.value_of("ab"), tree.value_of("a"), tree.has(None), Tree.of("ba", [("ab", 1), ("b", 2)]) == tree],
            [1, None, False, False]))
        check_raises(self, BadRow, {"number": 1}, Tree, "ba", [ROOT, ("a", 0, False), ("bb", 1, False)])
        check_raises(self, Lone, {"place": "bb"}, Tree, "ba", [ROOT, ("bb", 1, False), ("ab", 2, False)])


class LettersTest(unittest.TestCase):
    def test_letters_of_each_number_in_any_order(self):
        source = seeded(1)
        for many in range(2, 27):
            letters = some_letters(source, many)
            self.assertEqual(Tree(letters, [ROOT]).letters, letters)
            self.assertEqual(Tree.of(letters, []).letters, letters)

    def test_each_letter_of_the_alphabet(self):
        for letter in ALPHABET:
            letters = "az" if letter not in "az" else "mn"
            self.assertTrue(Tree.of(letters + letter, [(letter, 1)]).has(letter))

    def test_no_letters(self):
        for value in NO_LETTERS:
            check_raises(self, BadLetters, {"letters": value}, Tree, value, [ROOT])
            check_raises(self, BadLetters, {"letters": value}, Tree.of, value, [])

    def test_any_value_for_letters(self):
        for value in any_values():
            if value not in ("ab", "ba"):
                check_raises(self, BadLetters, {"letters": value}, Tree, value, [ROOT])
                check_raises(self, BadLetters, {"letters": value}, Tree.of, value, [])

    def test_letters_are_due_ahead_of_rows(self):
        for rows in ([], [ROOT] * 2001, [None], [("b", 1, False)]):
            check_raises(self, BadLetters, {"letters": "a"}, Tree, "a", rows)
        for items in ([None], [("a", 0)], [("a" * 200, 1), ("b", 1)]):
            check_raises(self, BadLetters, {"letters": "aa"}, Tree.of, "aa", items)


class RowsTest(unittest.TestCase):
    def test_rows_in_any_order_of_lists_and_tuples(self):
        source = seeded(2)
        for many in (1, 2, 3, 10, 60, 300):
            letters = some_letters(source, source.randint(2, 26))
            rows = some_rows(source, letters, many)
            expected = tuple(sorted(rows, key=lambda row: ranks(row[0], letters)))
            mixed = [source.choice([list, tuple])(row) for row in shuffled(source, rows)]
            for told in (mixed, tuple(mixed)):
                tree = Tree(letters, told)
                self.assertTrue(alike(tree.rows, expected))
                self.assertTrue(alike([tree.letters, tree.size], [letters, many]))
                self.assertEqual(tree.height, max(len(row[0]) for row in rows))

    def test_none_and_one_row(self):
        for rows in ([], ()):
            check_raises(self, TooMany, {"what": "places", "many": 0, "most": 2000}, Tree, "ab", rows)
        tree = Tree("ab", [("", 9, True)])
        self.assertTrue(alike([tree.rows, tree.size, tree.height], [(("", 9, True),), 1, 0]))

    def test_2000_and_2001_rows(self):
        rows = some_rows(seeded(3), "abcdef", 2002)
        self.assertEqual(Tree("abcdef", rows[:2000]).size, 2000)
        for many in (2001, 2002):
            fields = {"what": "places", "many": many, "most": 2000}
            check_raises(self, TooMany, fields, Tree, "abcdef", rows[:many])

    def test_the_number_of_rows_is_due_ahead_of_wrong_rows(self):
        fields = {"what": "places", "many": 2001, "most": 2000}
        for row in (None, ROOT, ("c", 1, False), ("b", 1, False)):
            check_raises(self, TooMany, fields, Tree, "ab", [row] * 2001)

    def test_places_of_200_and_201_letters(self):
        rows = [("a" * length, None, False) for length in range(202)]
        self.assertEqual(Tree("ab", rows[:201]).height, 200)
        check_raises(self, BadRow, {"number": 201}, Tree, "ab", rows)

    def test_values_and_flags(self):
        for value in [None] + list(range(1, 10)):
            for flag in (False, True):
                tree = Tree("ab", [("", value, flag), ["a", value, not flag]])
                self.assertTrue(alike(tree.rows, (("", value, flag), ("a", value, not flag))))

    def test_rows_that_are_no_triples(self):
        wrong = [("a",), ("a", 1), ("a", 1, False, 1), ["a", 1], [], (), "a1f", "abc", {"a": 1, "b": 2, "c": 3}]
        for row in wrong + any_values():
            if row not in (("", None, False), ["", None, False]):
                check_raises(self, BadRow, {"number": 0}, Tree, "ab", [row])
                check_raises(self, BadRow, {"number": 2}, Tree, "ab", [ROOT, ("a", 1, False), row, None])

    def test_rows_with_a_wrong_part(self):
        for place in NO_WORDS:
            check_raises(self, BadRow, {"number": 1}, Tree, "ab", [ROOT, (place, 1, False)])
        for value in NO_VALUES:
            check_raises(self, BadRow, {"number": 1}, Tree, "ab", [ROOT, ["a", value, False]])
        for flag in (0, 1, None, "", "True", (), [False]):
            check_raises(self, BadRow, {"number": 1}, Tree, "ab", [ROOT, ("a", 1, flag)])

    def test_a_place_that_stands_before(self):
        twice = [ROOT, ("a", 1, False), ["a", 1, False], ROOT]
        check_raises(self, BadRow, {"number": 2}, Tree, "ab", twice)
        check_raises(self, BadRow, {"number": 3}, Tree, "ab", [ROOT, ("b", 1, False), ("a", 2, False), ["b", 2, True]])
        check_raises(self, BadRow, {"number": 1}, Tree, "ab", [ROOT, ROOT])

    def test_the_first_wrong_row_is_told(self):
        rows = [ROOT, ("a", 1, False), ("b", 1, False), ("aa", 1, False)]
        for number in range(4):
            wrong = rows[:number] + [None] + rows[number + 1:] + [None]
            check_raises(self, BadRow, {"number": number}, Tree, "ab", wrong)

    def test_a_wrong_row_is_due_ahead_of_a_lone_place(self):
        check_raises(self, BadRow, {"number": 2}, Tree, "ab", [ROOT, ("bb", 1, False), ("c", 1, False)])
        check_raises(self, BadRow, {"number": 1}, Tree, "ab", [("bb", 1, False), ("bb", 1, False)])

    def test_lone_places(self):
        for letters, places, lone in [
            ("ab", ["a"], "a"), ("ab", ["ab", "a"], "a"), ("ab", ["b", "ab"], "ab"), ("ba", ["b", "ab"], "b"),
            ("ab", ["", "bb", "ab"], "ab"), ("ba", ["", "ab", "bb"], "bb"), ("ab", ["", "aaa"], "aaa"),
            ("ab", ["", "a", "aab", "b", "bab", "ba", "bbb"], "aab"), ("zyx", ["", "x", "xzy", "yxx", "y"], "yxx"),
        ]:
            rows = [(place, 1, False) for place in places]
            check_raises(self, Lone, {"place": lone}, Tree, letters, rows)

    def test_lone_places_are_told_in_the_order_of_letters(self):
        source = seeded(4)
        for _ in range(60):
            letters = some_letters(source, source.randint(2, 26))
            rows = some_rows(source, letters, 40)
            left = [row for row in rows if source.random() < 0.9]
            there = {row[0] for row in left}
            lone = [place for place in there if place != "" and place[:-1] not in there]
            if lone:
                first = min(lone, key=lambda place: ranks(place, letters))
                check_raises(self, Lone, {"place": first}, Tree, letters, shuffled(source, left))
            elif left:
                self.assertEqual(Tree(letters, left).size, len(left))


class AskingTest(unittest.TestCase):
    def setUp(self):
        self.source = seeded(5)
        self.letters = "zqamb"
        self.rows = some_rows(self.source, self.letters, 120)
        self.tree = Tree(self.letters, self.rows)
        self.words = [row[0] for row in self.rows]
        self.missing = [word + letter for word in self.words for letter in "zqambc" if word + letter not in self.words]

    def test_places_that_are_there(self):
        for place, value, flag in self.rows:
            self.assertIs(self.tree.has(place), True)
            self.assertTrue(alike(self.tree.value_of(place), value))
            self.assertTrue(alike(self.tree.row(place), (place, value, flag)))
            below = "".join(letter for letter in self.letters if place + letter in self.words)
            self.assertEqual(self.tree.below(place), below)

    def test_places_that_are_not_there(self):
        for value in self.missing + NO_WORDS + any_values()[:10] + any_values()[12:] + ["z" * 201, "Z"]:
            if value != "" and value not in self.words:
                self.assertIs(self.tree.has(value), False)
                self.assertIsNone(self.tree.value_of(value))
                check_raises(self, NoPlace, {"place": value}, self.tree.row, value)
                check_raises(self, NoPlace, {"place": value}, self.tree.below, value)

    def test_word_items(self):
        kept = [(place, value) for place, value, flag in self.rows if value is not None]
        expected = tuple(sorted(kept, key=lambda item: ranks(item[0], self.letters)))
        self.assertTrue(alike(self.tree.word_items(), expected))
        self.assertTrue(alike(Tree("ab", [ROOT, ("a", None, True)]).word_items(), ()))
        self.assertTrue(alike(Tree("ab", [("", 3, True)]).word_items(), (("", 3),)))

    def test_equal_trees(self):
        again = Tree(self.letters, tuple(shuffled(self.source, [list(row) for row in self.rows])))
        self.assertTrue(self.tree == again)
        self.assertFalse(self.tree != again)

    def test_unlike_trees(self):
        rows = [("", None, False), ("a", 1, False)]
        tree = Tree("ab", rows)
        others = [
            Tree("ba", rows), Tree("abc", rows), Tree("ab", rows[:1]), Tree("ab", rows + [("b", 1, False)]),
            Tree("ab", [("", None, False), ("a", 2, False)]), Tree("ab", [("", None, False), ("a", 1, True)]),
            Tree("ab", [("", None, False), ("a", None, False)]), Tree("ab", [("", None, False), ("b", 1, False)]),
            Tree("ab", [("", None, True), ("a", 1, False)]),
        ]
        for other in others + any_values() + [tree.rows, ("ab", tree.rows)]:
            self.assertFalse(tree == other)
            self.assertFalse(other == tree)
            self.assertTrue(tree != other)

    def test_a_root_alone_over_unlike_letters(self):
        self.assertFalse(Tree("ab", [ROOT]) == Tree("ba", [ROOT]))
        self.assertTrue(Tree("ab", [ROOT]) == Tree("ab", [list(ROOT)]))


class OfTest(unittest.TestCase):
    def test_places_are_the_beginnings(self):
        source = seeded(6)
        for _ in range(40):
            letters = some_letters(source, source.randint(2, 6))
            words = {"".join(source.choices(letters, k=source.randint(0, 8))) for _ in range(source.randint(0, 25))}
            items = [(word, source.randint(1, 9)) for word in shuffled(source, sorted(words))]
            places = {""} | {word[:end] for word in words for end in range(len(word) + 1)}
            rows = [(place, dict(items).get(place), False) for place in places]
            mixed = [source.choice([list, tuple])(item) for item in items]
            for told in (mixed, tuple(mixed)):
                tree = Tree.of(letters, told)
                self.assertTrue(tree == Tree(letters, rows))
                self.assertEqual(dict(tree.word_items()), dict(items))

    def test_no_words_and_the_empty_word(self):
        self.assertTrue(alike(Tree.of("ab", []).rows, (ROOT,)))
        self.assertTrue(alike(Tree.of("ba", (("", 4),)).rows, (("", 4, False),)))

    def test_items_that_are_no_pairs(self):
        wrong = [("a",), ("a", 1, 1), ("a", None), ("a", 1, False), ["a"], [], (), "a1", {"a": 1, "b": 2}, None]
        for item in wrong + any_values():
            if item != ("ab", 1):
                check_raises(self, BadItem, {"number": 0}, Tree.of, "ab", [item])
                check_raises(self, BadItem, {"number": 2}, Tree.of, "ab", [("", 1), ["a", 1], item, None])

    def test_items_with_a_wrong_part(self):
        for word in NO_WORDS:
            check_raises(self, BadItem, {"number": 1}, Tree.of, "ab", [("a", 1), (word, 1)])
        for value in NO_VALUES + [None]:
            check_raises(self, BadItem, {"number": 1}, Tree.of, "ab", [("a", 1), ["b", value]])

    def test_each_value(self):
        items = tuple((ALPHABET[value], value) for value in range(1, 10))
        self.assertTrue(alike(Tree.of(ALPHABET, items).word_items(), items))

    def test_a_word_that_stands_before(self):
        check_raises(self, BadItem, {"number": 2}, Tree.of, "ab", [("a", 1), ("b", 1), ["a", 2], ("b", 1)])
        check_raises(self, BadItem, {"number": 1}, Tree.of, "ab", [("", 1), ("", 1)])

    def test_words_of_200_and_201_letters(self):
        tree = Tree.of("ab", [("ab" * 100, 1)])
        self.assertTrue(alike([tree.size, tree.height], [201, 200]))
        check_raises(self, BadItem, {"number": 0}, Tree.of, "ab", [("ab" * 100 + "a", 1)])

    def test_2000_and_2001_places(self):
        # Nine ways of 200 letters and one of 199 are 1,999 places below the root.
        items = [(letter + "z" * 199, 1) for letter in "abcdefghi"] + [("j" + "z" * 198, 1)]
        self.assertEqual(Tree.of(ALPHABET, items).size, 2000)
        fields = {"what": "places", "many": 2001, "most": 2000}
        check_raises(self, TooMany, fields, Tree.of, ALPHABET, items + [("k", 2)])
        check_raises(self, TooMany, fields, Tree.of, ALPHABET, [("j" + "z" * 199, 3)] + items)
        self.assertEqual(Tree.of(ALPHABET, items + [("azz", 2), ("", 3)]).size, 2000)

    def test_many_is_the_number_of_places(self):
        source = seeded(7)
        for _ in range(10):
            letters = some_letters(source, 3)
            words = {"".join(source.choices(letters, k=source.randint(20, 60))) for _ in range(120)}
            places = {""} | {word[:end] for word in words for end in range(len(word) + 1)}
            fields = {"what": "places", "many": len(places), "most": 2000}
            items = [(word, 1) for word in shuffled(source, sorted(words))]
            check_raises(self, TooMany, fields, Tree.of, letters, items)

    def test_a_wrong_item_is_due_ahead_of_too_many(self):
        items = [(letter + "z" * 199, 1) for letter in ALPHABET[:12]]
        check_raises(self, BadItem, {"number": 12}, Tree.of, ALPHABET, items + [None])
        check_raises(self, BadItem, {"number": 12}, Tree.of, ALPHABET, items + [items[3]])


class CopyTest(unittest.TestCase):
    def test_what_is_handed_in_is_neither_changed_nor_kept(self):
        rows = [["b", 2, False], ["", None, True], ["ba", 3, False]]
        before = copy.deepcopy(rows)
        tree = Tree("ab", rows)
        told = tree.rows
        self.assertTrue(alike(rows, before))
        rows[0][1] = 7
        rows[1][2] = False
        rows.append(["a", 1, False])
        self.assertTrue(alike([tree.rows, tree.size, tree.value_of("b")], [told, 3, 2]))
        self.assertTrue(alike([tree.row("b"), tree.below(""), tree.has("a")], [("b", 2, False), "b", False]))

    def test_items_are_neither_changed_nor_kept(self):
        items = [["b", 2], ["a", 1]]
        before = copy.deepcopy(items)
        tree = Tree.of("ab", items)
        self.assertTrue(alike(items, before))
        items[0][1] = 9
        items.pop()
        self.assertTrue(alike(tree.word_items(), (("a", 1), ("b", 2))))

    def test_calls_that_raise_change_nothing(self):
        rows = [["", None, False], ["bb", 1, False], ["ab", [2], False]]
        for letters in ("ab", "aa"):
            before = copy.deepcopy(rows)
            with self.assertRaises(ValueError):
                Tree(letters, rows)
            self.assertTrue(alike(rows, before))

    def test_equal_calls_return_equal_results(self):
        source = seeded(8)
        rows = some_rows(source, "abc", 50)
        one, other = Tree("abc", rows), Tree("abc", tuple(rows))
        self.assertTrue(one == other)
        for place in [row[0] for row in rows]:
            self.assertEqual([one.row(place), one.below(place)], [other.row(place), other.below(place)])
        self.assertEqual([one.word_items(), one.word_items()], [other.word_items(), other.word_items()])

    def test_what_an_error_tells_is_not_what_was_handed_in(self):
        letters = ["a", ["b"]]
        with self.assertRaises(BadLetters) as caught:
            Tree(letters, [ROOT])
        letters[1].append("c")
        self.assertEqual(caught.exception.letters, ["a", ["b"]])


class SpeedTest(unittest.TestCase):
    def test_trees_of_2000_places_and_words_of_200_letters(self):
        rows = long_rows(ALPHABET)
        items = [(place, value) for place, value, flag in rows if value is not None]
        calls = [(Tree, ALPHABET, rows), (Tree.of, ALPHABET, items), (Tree, ALPHABET, rows[1:])]
        for call in calls:
            self.assertLess(seconds_of(*call), 1, call[0])
        tree = Tree(ALPHABET, rows)
        self.assertEqual([tree.size, tree.height], [2000, 200])
        for call in [(tree.word_items,), (tree.below, rows[-1][0]), (tree.__eq__, Tree(ALPHABET, rows))]:
            self.assertLess(seconds_of(*call), 1, call[0])
        for call in [(known_rule("free").broken_at, tree), (known_rule("joined").tree_of, ALPHABET, items)]:
            self.assertLess(seconds_of(*call), 1, call[0])

    def test_far_too_many_places_are_counted_soon(self):
        source = seeded(9)
        items = [("".join(source.choices(ALPHABET, k=200)), 1) for _ in range(2000)]
        self.assertLess(seconds_of(Tree.of, ALPHABET, items), 1)
