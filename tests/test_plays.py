"""Promises 2, 5, 6, 7 and 42: calls on a told tree, and what a row of them shows."""

import copy
import unittest

from tests import oracle
from tests.drawing import some_routine, some_tree, some_word
from tests.helpers import alike, any_values, check_raises, long_rows, ranks, seconds_of, seeded, some_letters
from treeshed.books import known_deeds
from treeshed.errors import BadCall, BadValue, BadWord, TooMany
from treeshed.plays import Played, call, played
from treeshed.routines import Routine
from treeshed.trees import Tree

PUT = Routine.read(
    "down:\n    if not next:\n        make\nturn:\n    if marked:\n        return no\n    mark\n    return yes")
STRIKE = Routine.read(
    "turn:\n    if not at end or not marked:\n        return no\n    unmark\n    if at root or not others == 0:\n"
    "        return yes\nup:\n    cut\n    if at root or marked or not others == 0:\n        return yes")
NO_WORDS = ["c", "abc", "A", "a ", "a\n", "a" * 201, None, True, 0, (), [], {}, ("a",), ["a"], b"a"]
NO_VALUES = [0, -1, 10, 10 ** 40, True, False, None, "1", "", (), [], [1], {}]
NOTHING = Routine([], [], [])


def told(tree):
    """What a tree has, as a dict."""
    return oracle.rows_of_tree(tree)


class CallTest(unittest.TestCase):
    def test_the_session(self):
        tree = Tree.of("abc", [("ab", 4), ("b", 1)])
        answer, behind = call(tree, PUT, "ac", 7)
        shown = [answer, behind.word_items(), call(behind, STRIKE, "c", 1)[0], call(tree, PUT, "ab", 4)[0]]
        self.assertTrue(alike(shown, ["yes", (("ab", 4), ("ac", 7), ("b", 1)), "no", "no"]))

    def test_drawn_calls(self):
        source = seeded(61)
        kinds = set()
        for _ in range(3000):
            letters = some_letters(source, source.randint(2, 4))
            tree = some_tree(source, letters, source.randint(1, 9), [None, None] + list(range(1, 10)))
            routine, word = some_routine(source), some_word(source, letters, 5)
            value = source.randint(1, 9)
            shown = call(tree, routine, word, value)
            answer, behind = oracle.called(told(tree), routine, word, value)
            self.assertIsInstance(shown, tuple)
            self.assertTrue(alike(shown[0], answer), (routine.text(), tree.rows, word))
            self.assertEqual(told(shown[1]), behind)
            self.assertEqual(shown[1].letters, letters)
            kinds.add(answer[0] if isinstance(answer, tuple) else answer)
        self.assertEqual(kinds, {"yes", "no", None, "is", "at", "misuse"})

    def test_each_statement_and_return(self):
        tree = Tree("ab", [("", 3, True), ("a", None, False), ("ab", 2, False), ("b", 1, False)])
        for blocks, word, answer, changed in [
            (([], [], []), "a", None, {}), (([], [("mark",)], []), "a", None, {"a": (5, False)}),
            (([], [("unmark",)], []), "", None, {"": (None, True)}),
            (([], [("flag", False)], []), "", None, {"": (3, False)}),
            (([("flag", True)], [], []), "ab", None, {"a": (None, True)}),
            (([], [], [("flag", False)]), "ab", None, {"": (3, False)}),
            (([], [], [("flag", False), ("stop",)]), "ab", None, {}),
            (([], [], [("flag", True), ("stop",), ("mark",)]), "ab", None, {"a": (None, True)}),
            (([("stop",), ("mark",)], [("mark",)], []), "ab", None, {"": (5, True)}),
            (([("make",)], [], []), "b", ("misuse", "there"), {}), (([], [("cut",)], []), "b", ("misuse", "none"), {}),
            (([], [("return", "value")], []), "b", ("is", 1), {}), (([], [("return", "value")], []), "a", None, {}),
            (([], [("return", "node")], []), "ab", ("at", "ab"), {}), (([], [("return", "p")], []), "ab", None, {}),
            (([("keep",)], [("return", "p")], []), "ab", ("at", "a"), {}),
            (([("keep",)], [("keep",), ("return", "p")], []), "ab", ("at", "ab"), {}),
            (([("keep",)], [], [("return", "p")]), "ab", ("at", "a"), {}),
            (([], [("return", "yes")], [("mark",)]), "ab", "yes", {}),
            (([], [], [("return", "node")]), "ab", ("at", "a"), {}),
            (([("mark",)], [("return", "no")], []), "ba", "no", {"": (5, True), "b": (5, False)}),
        ]:
            shown, behind = call(tree, Routine(*blocks), word, 5)
            self.assertTrue(alike(shown, answer), blocks)
            self.assertEqual(told(behind), {**told(tree), **changed})

    def test_others_counts_two_and_more(self):
        for many in range(6):
            for there, ends in ((False, False), (True, False), (False, True)):
                children = "bcdefg"[:many] + ("a" if there else "")
                tree = Tree("abcdefg", [("", None, False)] + [(letter, 1, False) for letter in children])
                for told in range(3):
                    routine = Routine(
                        [("stop",)], [("if", ("others", told), [("return", "yes")], []), ("return", "no")], [])
                    expected = "yes" if min(many, 2) == told else "no"
                    self.assertEqual(call(tree, routine, "" if ends else "a", 1)[0], expected, (many, there, told))

    def test_up_is_not_done_where_it_turns_at_the_root(self):
        routine = Routine([], [], [("mark",), ("return", "yes")])
        for word in ("", "b", "bb"):
            shown = call(Tree.of("ab", [("a", 1)]), routine, word, 5)
            self.assertTrue(alike([shown[0], shown[1].word_items()], [None, (("a", 1),)]))

    def test_p_tells_a_place_that_has_been_cut_off(self):
        routine = Routine([("keep",)], [("keep",)], [("cut",), ("if", ("root",), [("return", "p")], [])])
        shown, behind = call(Tree.of("ab", [("ab", 1)]), routine, "ab", 5)
        self.assertEqual([shown, behind.rows], [("at", "ab"), (("", None, False),)])

    def test_make_stop_and_cut_at_one_place(self):
        routine = Routine([("make",), ("stop",)], [("if", ("next",), [("cut",), ("return", "yes")], [])], [])
        tree = Tree.of("ab", [("b", 1)])
        self.assertTrue(alike(call(tree, routine, "ab", 2), ("yes", tree)))
        self.assertEqual(call(tree, routine, "bb", 2)[0], ("misuse", "there"))

    def test_what_is_made_is_bare(self):
        behind = call(Tree("ab", [("", 4, True)]), PUT, "aab", 7)[1]
        expected = (("", 4, True), ("a", None, False), ("aa", None, False), ("aab", 7, False))
        self.assertTrue(alike(behind.rows, expected))

    def test_what_is_cut_goes_with_all_below(self):
        tree = Tree("abc", some_tree(seeded(62), "abc", 60).rows)
        routine = Routine([("stop",)], [("if", ("next",), [("cut",)], [])], [])
        for letter in "abc":
            behind = call(tree, routine, letter, 1)[1]
            self.assertEqual(behind.rows, tuple(row for row in tree.rows if not row[0].startswith(letter)))

    def test_words_of_200_and_201_letters(self):
        tree = Tree("ab", [("", None, False)])
        behind = call(tree, PUT, "a" * 200, 9)[1]
        self.assertTrue(alike([behind.size, behind.word_items()], [201, (("a" * 200, 9),)]))
        self.assertEqual(call(behind, STRIKE, "a" * 200, 1)[1], tree)
        check_raises(self, BadWord, {"number": 0}, call, tree, PUT, "a" * 201, 1)

    def test_wrong_words_and_values(self):
        tree = Tree("ab", [("", None, False)])
        for word in NO_WORDS + [value for value in any_values() if value not in ("", "a", "ab", "ba")]:
            check_raises(self, BadWord, {"number": 0}, call, tree, PUT, word, 1)
            check_raises(self, BadWord, {"number": 0}, call, tree, PUT, word, 0)
        for value in NO_VALUES + [value for value in any_values() if not alike(value, 1) and not alike(value, 2)]:
            check_raises(self, BadValue, {"number": 0}, call, tree, PUT, "a", value)

    def test_2000_places_and_more(self):
        letters = "abcdefghij"
        tree = Tree(letters, long_rows(letters))
        self.assertEqual([tree.size, call(tree, NOTHING, "a" * 200, 1)[1] == tree], [2000, True])
        word = "b" + "j" * 10 + "aa"
        check_raises(self, TooMany, {"what": "places", "many": 2002, "most": 2000}, call, tree, PUT, word, 1)
        check_raises(self, BadWord, {"number": 0}, call, tree, PUT, word + "A", 0)
        check_raises(self, BadValue, {"number": 0}, call, tree, PUT, word, 0)
        # More in the midst of a call than behind it.
        back = Routine(PUT.down, [("mark",)], [("cut",)])
        self.assertEqual(call(tree, back, word, 1)[1].size, 1800)

    def test_a_call_on_2000_places_is_soon_back(self):
        letters = "abcdefghij"
        tree = Tree(letters, long_rows(letters))
        for routine in known_deeds().values():
            self.assertLess(seconds_of(call, tree, routine, "a" + "j" * 199, 9), 2)

    def test_the_tree_is_not_changed_and_equal_calls_are_equal(self):
        source = seeded(63)
        for _ in range(200):
            tree = some_tree(source, "ab", 8)
            rows = copy.deepcopy(tree.rows)
            routine, word = some_routine(source), some_word(source, "ab", 4)
            text = routine.text()
            self.assertTrue(alike(call(tree, routine, word, 2), call(Tree("ab", rows), routine, word, 2)))
            self.assertTrue(alike([tree.rows, tree.below("")], [rows, Tree("ab", rows).below("")]))
            self.assertEqual(routine.text(), text)


class PlayedTest(unittest.TestCase):
    def test_the_session(self):
        tree = Tree.of("abc", [("ab", 4), ("b", 1)])
        show = played(tree, [(PUT, "ac", 7), (STRIKE, "ab", 1), [PUT, "ab", 4], (STRIKE, "ac", 9)])
        self.assertTrue(alike(
            [show.answers, show.trees[4] == tree, show.made, show.struck],
            [("yes", "yes", "yes", "yes"), True, (("ac",), (), ("ab",), ()), ((), ("ab",), (), ("ac",))]))
        self.assertTrue(alike([show.old, show.kept_shared], [("", "a", "b"), ("b",)]))

    def test_drawn_rows(self):
        source = seeded(64)
        for _ in range(500):
            letters = some_letters(source, source.randint(2, 3))
            tree = some_tree(source, letters, source.randint(1, 9))
            calls = []
            for _ in range(source.randint(0, 5)):
                row = (some_routine(source), some_word(source, letters, 4), source.randint(1, 9))
                calls.append(source.choice([list, tuple])(row))
            self.check(played(tree, source.choice([list, tuple])(calls)), tree, calls)

    def check(self, show, tree, calls):
        """Checks that this is what the calls show."""
        trees, answers = [told(tree)], []
        for routine, word, value in calls:
            answer, behind = oracle.called(trees[-1], routine, word, value)
            answers.append(answer)
            trees.append(behind)

        def ordered(places):
            return tuple(sorted(places, key=lambda place: ranks(place, tree.letters)))

        both = list(zip(trees, trees[1:]))
        self.assertEqual([told(behind) for behind in show.trees], trees)
        self.assertTrue(alike(show.answers, tuple(answers)))
        self.assertTrue(alike(show.made, tuple(ordered(set(behind) - set(ahead)) for ahead, behind in both)))
        self.assertTrue(alike(show.struck, tuple(ordered(set(ahead) - set(behind)) for ahead, behind in both)))
        self.assertTrue(alike(show.old, ordered(oracle.old_places(trees))))
        self.assertTrue(alike(show.kept_shared, ordered(oracle.shared_places(trees))))
        self.assertIsInstance(show.trees, tuple)

    def test_no_calls(self):
        tree = some_tree(seeded(65), "ab", 7)
        show = played(tree, [])
        places = tuple(row[0] for row in tree.rows)
        self.assertTrue(alike([show.trees, show.answers, show.made, show.struck], [(tree,), (), (), ()]))
        self.assertTrue(alike([show.old, show.kept_shared], [places, places]))

    def test_what_is_changed_back_is_old_but_not_shared(self):
        tree = Tree.of("ab", [("aa", 1), ("b", 2)])
        unmark = Routine([], [("unmark",)], [])
        show = played(tree, [(unmark, "aa", 1), (PUT, "aa", 1)])
        shown = [show.trees[2] == tree, show.old, show.kept_shared]
        self.assertTrue(alike(shown, [True, ("", "a", "aa", "b"), ("b",)]))

    def test_200_and_201_calls(self):
        tree = Tree("ab", [("", None, False)])
        self.assertEqual(len(played(tree, [(PUT, "a", 1)] * 200).answers), 200)
        fields = {"what": "calls", "many": 201, "most": 200}
        check_raises(self, TooMany, fields, played, tree, [(PUT, "a", 1)] * 201)
        check_raises(self, TooMany, fields, played, tree, [None] * 201)

    def test_wrong_elements(self):
        tree = Tree("ab", [("", None, False)])
        right = [(PUT, "a", 1), [STRIKE, "", 9]]
        wrong = [(PUT, "a"), (PUT, "a", 1, 1), (None, "a", 1), ("put", "a", 1), (PUT.text(), "a", 1), (), [],
            "abc", PUT,
                 {PUT.text(): 1}, ("a", PUT, 1), (tree, "a", 1)]
        for value in wrong + any_values():
            for number in range(3):
                told_calls = right[:number] + [value, None, (PUT, "c", 0)]
                check_raises(self, BadCall, {"number": number}, played, tree, told_calls)

    def test_wrong_words_and_values_are_told_with_their_numbers(self):
        tree = Tree("ab", [("", None, False)])
        for word in NO_WORDS:
            check_raises(self, BadWord, {"number": 1}, played, tree, [(PUT, "a", 1), (PUT, word, 0), None])
        for value in NO_VALUES:
            check_raises(self, BadValue, {"number": 1}, played, tree, [(PUT, "a", 1), [PUT, "b", value], (PUT, "c", 1)])
        check_raises(self, BadValue, {"number": 0}, played, tree, [(PUT, "a", 0), (PUT, "c", 1)])
        check_raises(self, BadCall, {"number": 0}, played, tree, [(PUT, "c"), (PUT, "c", 1)])

    def test_the_first_call_that_leaves_too_many_places(self):
        letters = "abcdefghij"
        tree = Tree(letters, long_rows(letters)[:1990])
        calls = [(PUT, "b" + "a" * more, 1) for more in (3, 8, 150)]
        self.assertEqual(played(tree, calls[:2]).trees[-1].size, 1998)
        fields = {"what": "places", "many": 1990 + 150, "most": 2000}
        check_raises(self, TooMany, fields, played, tree, calls + [(PUT, "c" * 200, 1)])
        check_raises(self, BadValue, {"number": 3}, played, tree, calls + [(PUT, "c" * 200, 0)])

    def test_200_calls_are_soon_back(self):
        source = seeded(66)
        tree = some_tree(source, "abc", 9)
        calls = [(some_routine(source), some_word(source, "abc", 5), 1) for _ in range(200)]
        self.assertLess(seconds_of(played, tree, calls), 2)

    def test_calls_are_neither_changed_nor_kept(self):
        tree = Tree("ab", [("", None, False)])
        calls = [[PUT, "a", 1], [PUT, "b", 2]]
        show = played(tree, calls)
        self.assertEqual(calls, [[PUT, "a", 1], [PUT, "b", 2]])
        calls[0][1] = "b"
        calls.clear()
        self.assertEqual([show.answers, tree.size], [("yes", "yes"), 1])

    def test_results_take_any_fields(self):
        inner = [1, [2, ("a", [3])], {"a": [4]}]
        fields = [inner, None, "abc", (inner,), 7, [[]]]
        show = Played(*fields)
        inner[1].append(5)
        expected = (1, (2, ("a", (3,))), {"a": (4,)})
        self.assertTrue(alike(show.trees, expected))
        self.assertTrue(alike([show.answers, show.made, show.struck], [None, "abc", (expected,)]))
        self.assertTrue(alike([show.old, show.kept_shared], [7, ((),)]))
