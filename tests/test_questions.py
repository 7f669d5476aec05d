"""Promises 2, 8, 9, 14 and 43: questions, rows, stories, and what is unlike on a told tree."""

import copy
import itertools
import unittest

from tests import oracle
from tests.drawing import rule_around, some_pair, some_question, some_routine, some_tree
from tests.helpers import alike, any_values, check_raises, long_rows, seeded, some_letters
from treeshed.answers import ANSWER_KINDS
from treeshed.errors import BadAspect, BadCall, BadScript, BadWhere, BadWord, TooMany
from treeshed.questions import Question, enough_values, relation_of, rows_of, stories_of, unlike_on
from treeshed.routines import Routine
from treeshed.rules import Rule, known_rule
from treeshed.trees import Tree

ASPECTS = ("answers", "trees", "places", "shared", "cursor", "rule")
PUT = Routine([("if", ("not", ("next",)), [("make",)], [])],
              [("if", ("mark",), [("return", "no")], []), ("mark",), ("return", "yes")], [])
HAS = Routine([], [("if", ("and", ("ends",), ("mark",)), [("return", "yes")], []), ("return", "no")], [])
NOTHING = Routine([], [], [])
CALLS = [(PUT, 0, 1), (HAS, 1, 1), (HAS, 0, 9), (PUT, 1, 5)]
NO_CALLS = [
    (PUT, 0), (PUT, 0, 1, 1), (PUT, 2, 1), (PUT, -1, 1), (PUT, True, 1), (PUT, False, 1), (PUT, "0", 1), (PUT, None, 1),
    (PUT, 0, 0), (PUT, 0, 10), (PUT, 0, True), (PUT, 0, None), (PUT, 0, "1"), (PUT, (0,), 1), (PUT, 0, [1]),
    (None, 0, 1),
    ("put", 0, 1), (PUT.text(), 0, 1), (0, PUT, 1), ((), 0, 1), PUT, "abc", {PUT.text(): 0},
]
NO_NUMBERS = [-1, 2, 3, True, False, None, "0", "", (), [0], (0,), {}, 10 ** 40]


class SessionTest(unittest.TestCase):
    def test_the_session(self):
        plain, tree = known_rule("plain"), Tree.of("ab", [])
        question = Question([(PUT, 0, 1), (HAS, 1, 1)], [0, 1], [1, 0], ["answers", "trees"])
        shown = [relation_of(("a", "ab")), rows_of(question, (0, 1)), stories_of(question, (1,), False)]
        expected = ["within", ((), (0,), (1,), (0, 1), (1, 0)), (("new", ()), ("new", (1,)))]
        self.assertTrue(alike(shown, expected))
        shown = [unlike_on(question, plain, tree, ("a", "a")), unlike_on(question, plain, tree, ("a", "b"))]
        self.assertEqual(shown, ["answers", None])


class QuestionTest(unittest.TestCase):
    def test_fields(self):
        calls = [[PUT, 0, 1], (HAS, 1, 9)]
        question = Question(calls, [1, 0], (0,), ["rule", "answers"], {1: "yes", 0: "misuse"})
        expected = [((PUT, 0, 1), (HAS, 1, 9)), (1, 0), (0,), ("rule", "answers"), ((0, "misuse"), (1, "yes"))]
        shown = [question.calls, question.one, question.other, question.aspects, question.where]
        self.assertTrue(alike(shown, expected))
        for where in (None, {}):
            self.assertEqual(Question(calls, [], [], [], where).where, ())
        self.assertEqual(Question(calls, (), (), ()).aspects, ())

    def test_lists_are_neither_changed_nor_kept(self):
        told = [[[PUT, 0, 1], (HAS, 1, 1)], [0, 1], [1], ["trees"], {0: "yes"}]
        before = [[list(told[0][0]), told[0][1]]] + copy.deepcopy(told[1:])
        question = Question(*told)
        self.assertTrue(alike(told, before))
        told[0][0][1] = 1
        for part in told:
            part.clear()
        self.assertEqual(question, Question(*before))

    def test_equal_and_unlike_questions(self):
        told = [CALLS[:2], [0, 1], [1, 0], ["trees"], {0: "yes"}]
        question = Question(*told)
        self.assertTrue(question == Question([list(CALLS[0]), CALLS[1]], (0, 1), (1, 0), ("trees",), {0: "yes"}))
        changes = [
            [CALLS[:1] + [(HAS, 1, 2)], CALLS[:1] + [(PUT, 1, 1)], CALLS[:3]], [[1, 0], [0]], [[0, 1], [1], []],
            [["answers"], [], ["trees", "rule"]], [{}, {1: "yes"}, {0: "no"}, {0: "yes", 1: "yes"}]]
        for number, parts in enumerate(changes):
            for part in parts:
                other = told[:number] + [part] + told[number + 1:]
                if number != 1 or part != [0]:
                    self.assertFalse(question == Question(*other))
        self.assertFalse(question == Question(told[0], [0], *told[2:]))
        for other in any_values():
            self.assertFalse(question == other)

    def test_how_many_calls(self):
        for many in (0, 5, 6, 300):
            fields = {"what": "calls", "many": many, "most": 4}
            check_raises(self, TooMany, fields, Question, CALLS[:1] * many, [None], [None], [None])
        check_raises(self, TooMany, {"many": 5}, Question, [None] * 5, [], [], [])
        for many in (1, 2, 3, 4):
            self.assertEqual(len(Question(CALLS[:many], [], [], []).calls), many)

    def test_wrong_calls(self):
        for value in NO_CALLS + any_values():
            for number in range(3):
                calls = CALLS[:number] + [value] + [None]
                check_raises(self, BadCall, {"number": number}, Question, calls, [None], [None], [None], {None: 1})

    def test_wrong_scripts(self):
        calls = CALLS[:2]
        for value in NO_NUMBERS + [value for value in any_values() if value != 0 and value != 1]:
            for index, script in ((0, [value, 7]), (1, [1, value, 7]), (2, (1, 0, value))):
                told = {"script": "one", "index": index}
                check_raises(self, BadScript, told, Question, calls, script, [None], [None], {None: 1})
                told = {"script": "other", "index": index}
                check_raises(self, BadScript, told, Question, calls, [0, 1], script, [None], {None: 1})

    def test_a_number_that_stands_before(self):
        for index, script in ((1, [0, 0]), (2, [0, 1, 0]), (2, [1, 0, 0, 5]), (3, [0, 1, 2, 1])):
            calls = CALLS[:3]
            check_raises(self, BadScript, {"script": "one", "index": index}, Question, calls, script, script, [])
            check_raises(self, BadScript, {"script": "other", "index": index}, Question, calls, [], script, [])

    def test_four_numbers_together(self):
        for one, other in itertools.product(range(5), range(5)):
            scripts = [list(range(one)), list(range(other))]
            if one + other <= 4:
                self.assertEqual(len(Question(CALLS, *scripts, []).one), one)
            else:
                fields = {"what": "numbers", "many": one + other, "most": 4}
                check_raises(self, TooMany, fields, Question, CALLS, *scripts, [None], {None: 1})

    def test_wrong_aspects(self):
        wrong = ["answer", "Trees", "tree", "", "none", "yes", ("trees",), ["trees"], b"trees", None, 0, True]
        for value in wrong + any_values():
            for index, aspects in ((0, [value, value]), (1, ["rule", value]), (2, ("rule", "trees", value))):
                check_raises(self, BadAspect, {"index": index}, Question, CALLS, [0], [], aspects, {None: 1})
        for aspects in (["trees", "trees"], ["trees", "rule", "trees"], list(ASPECTS) + ["rule"]):
            check_raises(self, BadAspect, {"index": len(aspects) - 1}, Question, CALLS, [0], [], aspects)
        self.assertEqual(Question(CALLS, [], [], ASPECTS[::-1]).aspects, ASPECTS[::-1])

    def test_wrong_where(self):
        for key in (1, 3, 4, -1, True, False, None, "0", (0,), ()):
            for where in ({key: "yes"}, {0: "yes", key: "no", 7: "yes"}):
                if key is False and 0 in where and len(where) < 3:
                    where = {False: "yes"}
                if list(where) != [0, 7]:
                    check_raises(self, BadWhere, {"number": key}, Question, CALLS, [2, 0], [1], [], where)
        for kind in [None, "", "Yes", "value", "none ", ("is", 1), ("yes",), 0, True] + any_values():
            check_raises(self, BadWhere, {"number": 2}, Question, CALLS, [2, 0], [1], [], {0: "yes", 2: kind, 9: 1})
        for kind in ANSWER_KINDS:
            self.assertEqual(Question(CALLS, [2, 0], [1], [], {2: kind}).where, ((2, kind),))

    def test_where_asks_for_numbers_of_script_one_alone(self):
        check_raises(self, BadWhere, {"number": 1}, Question, CALLS, [0], [1, 0], [], {1: "yes"})
        check_raises(self, BadWhere, {"number": 0}, Question, CALLS, [], [0], [], {0: "yes"})


class WordTest(unittest.TestCase):
    def test_relations(self):
        for pair, relation in [
            (("", ""), "same"), (("ab", "ab"), "same"), (("", "a"), "within"), (("a", "ab"), "within"),
            (("ab", "abab"), "within"),
            (("a", ""), "around"), (("ab", "a"), "around"), (("a", "b"), "apart"), (("ab", "aa"), "apart"),
            (("ab", "ba"), "apart"), (("abb", "ab"), "around"), (("aab", "ab"), "apart"),
        ]:
            self.assertEqual(relation_of(pair), relation)

    def test_enough_values(self):
        for values, enough in [
            ((1,), (1, 2, 3)), ((2,), (1, 2, 3)), ((3,), (1, 2, 3)), ((9,), (1, 2, 9)), ((1, 2), (1, 2, 3, 4)),
            ((9, 9, 1, 9), (1, 2, 3, 9)), ((1, 2, 3, 4), (1, 2, 3, 4, 5, 6)), ((4, 2), (1, 2, 3, 4)), ((5, 1, 3),
            (1, 2, 3, 4, 5)),
            ((9, 8, 7, 6), (1, 2, 6, 7, 8, 9)),
        ]:
            question = Question([(PUT, 0, value) for value in values], [], [], [])
            self.assertTrue(alike(enough_values(question), enough))

    def test_rows_and_stories(self):
        source = seeded(71)
        for _ in range(300):
            question = some_question(source, [])
            for words in ((0,), (1,), (0, 1)):
                rows = tuple(oracle.all_rows(question, words))
                self.assertTrue(alike(rows_of(question, words), rows))
                new = tuple(("new", row) for row in rows)
                self.assertTrue(alike(stories_of(question, words, False), new))
                self.assertTrue(alike(stories_of(question, words, True), tuple(("old", row) for row in rows) + new))

    def test_rows_of_scripts_that_have_nothing_in_common(self):
        question = Question(CALLS, [3, 0], [2, 1], [])
        self.assertEqual(rows_of(question, (0, 1)), ((), (0,), (1,), (2,), (3,), (2, 1), (3, 0)))
        self.assertEqual([rows_of(question, (0,)), rows_of(question, (1,))], [((), (0,), (2,)), ((), (1,), (3,))])
        question = Question(CALLS, [], [], [])
        self.assertEqual(stories_of(question, (0, 1), True), (("old", ()), ("new", ())))


def shown_by(question, rule, tree, pair):
    """What unlike_on returns, told once more."""
    if not rule.keeps(tree):
        return "not asked"
    shown = []
    for script in (question.one, question.other):
        trees, answers = [oracle.rows_of_tree(tree)], {}
        for number in script:
            routine, which, value = question.calls[number]
            answers[number], behind = oracle.called(trees[-1], routine, pair[which], value)
            trees.append(behind)
        shown.append((trees, answers))
    (trees, answers), (other_trees, other_answers) = shown
    for number, kind in question.where:
        answer = answers[number]
        if (answer[0] if isinstance(answer, tuple) else answer or "none") != kind:
            return "not asked"
    last = Tree(tree.letters, [(place,) + row for place, row in trees[-1].items()])
    holds = {
        "answers": all(answers[number] == other_answers[number] for number in answers if number in other_answers),
        "trees": trees[-1] == other_trees[-1],
        "places": oracle.old_places(trees) == oracle.old_places(other_trees),
        "shared": oracle.shared_places(trees) == oracle.shared_places(other_trees),
        "cursor": not tree.has(pair[0]) or pair[0] in oracle.old_places(trees),
        "rule": rule.keeps(last),
    }
    return ([aspect for aspect in question.aspects if not holds[aspect]] + [None])[0]


class UnlikeTest(unittest.TestCase):
    def test_drawn_questions(self):
        source = seeded(72)
        found = set()
        for _ in range(1500):
            aspects = source.sample(ASPECTS, source.randint(0, 6))
            question = some_question(source, aspects)
            tree = some_tree(source, some_letters(source, 2), source.randint(1, 9))
            pair = source.choice([list, tuple])(some_pair(source, tree.letters))
            rule = rule_around(source, tree) if source.random() < 0.9 else known_rule("plain")
            shown = unlike_on(question, rule, tree, pair)
            self.assertEqual(shown, shown_by(question, rule, tree, pair))
            found.add(shown)
        self.assertEqual(found, set(ASPECTS) | {None, "not asked"})

    def test_the_first_aspect_in_the_order_of_the_question(self):
        tree = Tree.of("ab", [("a", 1)])
        strike = Routine([], [("unmark",)], [("cut",)])
        for aspects in itertools.permutations(["answers", "trees", "places", "shared"], 3):
            question = Question([(strike, 0, 1), (HAS, 0, 1)], [0, 1], [1], aspects)
            self.assertEqual(unlike_on(question, known_rule("free"), tree, ("a", "")), aspects[0])

    def test_not_asked(self):
        tree = Tree.of("ab", [("a", 1)])
        for kind in ANSWER_KINDS:
            question = Question([(PUT, 0, 1)], [0], [], ["trees"], {0: kind})
            for word, answer in (("a", "no"), ("b", "yes")):
                expected = "not asked" if kind != answer else "trees" if answer == "yes" else None
                self.assertEqual(unlike_on(question, known_rule("plain"), tree, (word, "")), expected)
        question = Question([(PUT, 0, 1)], [0], [], ["trees"])
        self.assertEqual(unlike_on(question, Rule([], []), tree, ("b", "")), "not asked")

    def test_wrong_words(self):
        question = Question(CALLS[:2], [0, 1], [1, 0], ["trees"])
        tree = Tree("ab", [("", None, True)])
        wrong = ["c", "A", "a" * 201, " ", None, 0, (), ["a"], b"a"]
        for word in wrong + [value for value in any_values() if value not in ("", "a", "ab", "ba")]:
            check_raises(self, BadWord, {"number": 0}, unlike_on, question, Rule([], []), tree, (word, word))
            check_raises(self, BadWord, {"number": 1}, unlike_on, question, known_rule("plain"),
                tree, ["a" * 200, word])

    def test_too_many_places(self):
        letters = "abcdefghij"
        tree = Tree(letters, long_rows(letters))
        far = "b" + "a" * 9
        fields = {"what": "places", "many": 2009, "most": 2000}
        question = Question([(PUT, 0, 1), (PUT, 1, 1)], [0], [1], [], {0: "yes"})
        free = known_rule("free")
        check_raises(self, TooMany, fields, unlike_on, question, free, tree, (far, ""))
        check_raises(self, TooMany, fields, unlike_on, question, free, tree, ("", far))
        check_raises(self, TooMany, fields, unlike_on, question, free, tree, (far, far + "a"))
        # Script other is played also where script one shows that nothing is asked.
        question = Question([(HAS, 0, 1), (PUT, 1, 1)], [0], [1], [], {0: "misuse"})
        check_raises(self, TooMany, fields, unlike_on, question, free, tree, ("", far))
        self.assertEqual(unlike_on(question, known_rule("bare"), Tree("ab", [("", 1, True)]), ("", "a")), "not asked")

    def test_nothing_is_changed(self):
        source = seeded(73)
        for _ in range(100):
            question = some_question(source, ASPECTS)
            tree = some_tree(source, "ab", 6)
            pair = list(some_pair(source, "ab"))
            before = [tree.rows, list(pair), question.where]
            first = unlike_on(question, known_rule("free"), tree, pair)
            self.assertEqual(first, unlike_on(question, known_rule("free"), tree, tuple(pair)))
            self.assertTrue(alike([tree.rows, pair, question.where], before))

    def test_routines_are_kept_as_they_are(self):
        routine = some_routine(seeded(74))
        self.assertTrue(Question([(routine, 0, 1)], [0], [], []).calls[0][0] == routine)
        self.assertFalse(Question([(routine, 0, 1)], [0], [], []).calls[0][0] == NOTHING)
