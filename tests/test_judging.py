"""Promises 2, 13, 14 and 45: judging for all trees, and what is told of a routine."""

import itertools
import unittest
import unittest.mock

from tests.drawing import some_question, some_routine
from tests.helpers import KINDS, alike, any_values, check_raises, seconds_of, seeded
from treeshed.books import known_deeds
from treeshed.errors import BadRelation, BadValues, BadWhere, TooMany
from treeshed.judging import Alike, Unlike, is_alike, is_unlike, judge, keeps_cursor, kept_by, saves, undoes
from treeshed.plays import call, played
from treeshed.questions import Question, enough_values, relation_of, unlike_on
from treeshed.routines import Routine
from treeshed.rules import Rule, all_trees, known_rule
from treeshed.tables import is_let, longer, whole
from treeshed.trees import Tree

ASPECTS = ("answers", "trees", "places", "shared", "cursor", "rule")
RELATIONS = ("same", "within", "around", "apart")
RULES = ("plain", "joined", "bare", "free")
FREE, PLAIN, BARE = known_rule("free"), known_rule("plain"), known_rule("bare")
PUT = Routine([("if", ("not", ("next",)), [("make",)], [])],
              [("if", ("mark",), [("return", "no")], []), ("mark",), ("return", "yes")], [])
HAS = Routine([], [("if", ("and", ("ends",), ("mark",)), [("return", "yes")], []), ("return", "no")], [])
UNMARK = Routine(
    [], [("if", ("and", ("ends",), ("mark",)), [("unmark",), ("return", "yes")], []), ("return", "no")], [])
QUESTION = Question([(PUT, 0, 1), (HAS, 1, 1)], [0, 1], [1, 0], ["answers", "trees"])
# Two routines and values, twice: four calls that make very many tables.
KEEPS = Routine.read(
    "down:\n    if marked:\n        keep\n    elif flag:\n        keep\nturn:\n    if flag:\n        return p\n"
    "    return value\nup:\n    flag = false")
CUTS = Routine.read(
    "down:\n    if flag:\n        keep\nturn:\n    if marked:\n        return value\n    mark\n    flag = true\nup:\n"
    "    if own:\n        return p\n    if next:\n        cut")
MANY = [(KEEPS, 1), (CUTS, 2), (KEEPS, 3), (CUTS, 1)]
WORDS = ["".join(word) for length in range(4) for word in itertools.product("ab", repeat=length)]
PAIRS = {relation: [] for relation in RELATIONS}
for PAIR in itertools.product(WORDS, WORDS):
    PAIRS[relation_of(PAIR)].append(PAIR)


def unlike_trees(question, rule, relation, size, values):
    """Whether an aspect of the question does not hold on some tree of the rule of this size, with short words."""
    for tree in all_trees(rule, "ab", size, values):
        for pair in PAIRS[relation]:
            if unlike_on(question, rule, tree, pair) not in (None, "not asked"):
                return True
    return False


def cells_over(rule, values, below, root):
    """The cells that are let over tables."""
    cells = [None] + list(itertools.product([None] + list(values), (False, True), range(3)))
    return [cell for cell in cells if is_let(rule, cell, sum(table[1] for table in below), root)]


def closed_over(question, rule, values, words, bottoms):
    """The tables of some words that come over these tuples of tables, and over themselves."""
    found, waiting = {}, list(bottoms)
    while waiting:
        below = waiting.pop()
        for cell in cells_over(rule, values, below, False):
            table = longer(question, rule, words, cell, below)
            if table not in found:
                found[table] = True
                waiting.append((table,))
    return sorted(found)


def closed(question, rule, relation, values):
    """The three sets of tables, and what whole tells at the roots."""
    zero = closed_over(question, rule, values, (0,), [()]) if relation in ("around", "apart") else []
    one = closed_over(question, rule, values, (1,), [()]) if relation in ("within", "apart") else []
    bottoms = {
        "same": [()], "within": [(table,) for table in one], "around": [(table,) for table in zero],
        "apart": list(itertools.product(zero, one))}[relation]
    both = closed_over(question, rule, values, (0, 1), bottoms)
    told = {
        whole(question, rule, cell, below) for below in bottoms + [(table,) for table in both]
        for cell in cells_over(rule, values, below, True)}
    return (tuple(zero), tuple(one), tuple(both)), told


def some_rule(source):
    """A known rule, or one of a few kinds."""
    if source.random() < 0.5:
        return known_rule(source.choice(RULES))
    return Rule(source.sample(KINDS, source.randint(3, 8)), source.sample(KINDS, source.randint(3, 8)))


class SessionTest(unittest.TestCase):
    def test_the_session(self):
        paper = judge(QUESTION, PLAIN, "same", [1, 2, 3])
        shown = [paper.tree.size, paper.how, is_unlike(paper), is_alike(judge(QUESTION, PLAIN, "apart", [1, 2, 3]))]
        self.assertTrue(alike(shown, [1, "answers", True, True]))
        shown = [kept_by(PUT, PLAIN), kept_by(UNMARK, PLAIN), kept_by(UNMARK, BARE), saves(PUT, PLAIN)]
        shown += [undoes(PUT, UNMARK, BARE, "yes"), keeps_cursor(PUT, PLAIN, "around", True)]
        self.assertTrue(alike(shown, [True, False, True, True, False, True]))


class JudgeTest(unittest.TestCase):
    def test_drawn_questions(self):
        source = seeded(101)
        many = {Alike: 0, Unlike: 0}
        for _ in range(160):
            question = some_question(source, source.sample(ASPECTS, source.randint(1, 3)), 0.3)
            if len(question.calls) > 2:
                continue
            rule, relation = some_rule(source), source.choice(RELATIONS)
            values = source.choice([[1], (2,), [1, 2]])
            paper = judge(question, rule, relation, values)
            many[paper.__class__] += 1
            shown = [paper.question, paper.rule, paper.relation]
            self.assertEqual(shown, [question, rule, relation])
            if isinstance(paper, Alike):
                self.check_alike(paper, question, rule, relation, values)
            else:
                self.check_unlike(paper, question, rule, relation, values)
        self.assertGreater(min(many.values()), 15)

    def check_alike(self, paper, question, rule, relation, values):
        self.assertTrue(alike(paper.value_list, tuple(values)))
        for size in (1, 2):
            self.assertFalse(unlike_trees(question, rule, relation, size, values))
        tables, told = closed(question, rule, relation, values)
        self.assertTrue(alike(paper.tables, tables))
        self.assertLessEqual(told, {None, "not asked"})
        self.assertIs(is_alike(paper), True)

    def check_unlike(self, paper, question, rule, relation, values):
        self.assertIs(is_unlike(paper), True)
        self.assertEqual(relation_of(paper.pair), relation)
        self.assertTrue(rule.keeps(paper.tree))
        self.assertLessEqual({row[1] for row in paper.tree.rows}, {None} | set(values))
        self.assertEqual(unlike_on(question, rule, paper.tree, paper.pair), paper.how)
        self.assertIsInstance(paper.pair, tuple)
        for size in range(1, min(paper.tree.size, 4)):
            self.assertFalse(unlike_trees(question, rule, relation, size, values))
        if not alike(closed(question, rule, relation, values)[1] - {None, "not asked"}, set()):
            return
        self.fail("whole tells of nothing unlike")

    def test_the_least_tree_may_be_greater(self):
        for test, size in (("at end", 1), ("next", 2), ("others == 1 and next", 3), ("others > 1 and next", 4)):
            routine = Routine.read(f"down:\n    stop\nturn:\n    if {test}:\n        unmark\n    return no")
            question = Question([(routine, 0, 1)], [0], [], ["trees"])
            paper = judge(question, FREE, "same", [1])
            self.assertEqual([paper.tree.size, is_unlike(paper)], [size, True])

    def test_missing_places_cost_nothing(self):
        # It shows where a word goes on for two missing places, or at a root with a child.
        routine = Routine.read(
            "down:\n    if not next:\n        make\nturn:\n    if at root and others == 1:\n        flag = true\nup:\n"
            "    if not at root:\n        return yes\n    cut")
        question = Question([(routine, 0, 1)], [0], [], ["trees"])
        for rule in (FREE, BARE):
            paper = judge(question, rule, "same", [1])
            self.assertEqual([paper.tree.size, len(paper.pair[0]), is_unlike(paper)], [1, 2, True])

    def test_other_children_cost_a_place_each(self):
        # It shows at a root with a flag and no child, or without a flag and with one or two others.
        routine = Routine.read("down:\n    stop\nturn:\n    if not flag and not others == 0:\n        flag = true")
        question = Question([(routine, 0, 1)], [0], [], ["trees"])
        kinds = [(False, False, 1), (False, False, 2), (False, True, 0)]
        paper = judge(question, Rule(kinds, [(False, False, 0)]), "same", [1])
        self.assertEqual([paper.tree.size, is_unlike(paper)], [2, True])
        paper = judge(question, Rule(kinds[1:], [(False, False, 0)]), "same", [1])
        self.assertEqual([paper.tree.size, is_unlike(paper)], [3, True])

    def test_just_as_many_as_there_may_be(self):
        for relation, words in (("around", 0), ("within", 1), ("same", 2), ("apart", 0), ("apart", 1), ("apart", 2)):
            paper = judge(Question(QUESTION.calls, [0, 1], [1, 0], []), PLAIN, relation, [1, 2])
            many = max([len(paper.tables[number]) for number in range(words + 1)])
            with unittest.mock.patch("treeshed.closing.MOST_TABLES", max(map(len, paper.tables))):
                self.assertIsInstance(judge(paper.question, PLAIN, relation, [1, 2]), Alike)
            with unittest.mock.patch("treeshed.closing.MOST_TABLES", many - 1):
                fields = {"what": "tables", "many": many, "most": many - 1}
                check_raises(self, TooMany, fields, judge, paper.question, PLAIN, relation, [1, 2])
        joints = len(paper.tables[0]) * len(paper.tables[1])
        with unittest.mock.patch("treeshed.closing.MOST_JOINTS", joints):
            self.assertIsInstance(judge(paper.question, PLAIN, "apart", [1, 2]), Alike)
        with unittest.mock.patch("treeshed.closing.MOST_JOINTS", joints - 1):
            fields = {"what": "joints", "many": joints, "most": joints - 1}
            check_raises(self, TooMany, fields, judge, paper.question, PLAIN, "apart", [1, 2])

    def test_rest_places_are_those_that_the_rule_lets(self):
        routine = Routine.read("turn:\n    if others > 1:\n        unmark")
        question = Question([(routine, 0, 1)], [0], [], ["trees"])
        rule = Rule([(True, False, 2)], [(True, True, 0)])
        paper = judge(question, rule, "same", [5, 7])
        self.assertEqual([paper.tree.size, is_unlike(paper)], [3, True])
        self.assertEqual({row[1:] for row in paper.tree.rows if row[0]}, {(paper.tree.rows[1][1], True)})
        self.assertIsInstance(judge(question, Rule([(True, False, 2)], [(True, True, 1)]), "same", [5]), Alike)
        self.assertIsInstance(judge(question, Rule([], [(True, True, 0)]), "same", [5]), Alike)

    def test_words_may_go_on_where_nothing_is(self):
        # The call makes three places, each by the flag that it has set at the place above.
        routine = Routine.read(
            "down:\n    if at root:\n        make\n    elif next:\n        flag = false\n    else:\n        make\n"
            "turn:\n    if not at root:\n        return no\nup:\n    if not at root and others == 0:\n        mark")
        question = Question([(routine, 0, 1)], [0], [], ["trees"], {0: "no"})
        paper = judge(question, Rule([(False, False, 0)], []), "same", [1])
        self.assertEqual([paper.tree.size, is_unlike(paper)], [1, True])

    def test_wrong_relations(self):
        wrong = ["", "Same", "same ", "with", None, 0, ("same",), ["same"], b"same"]
        for value in wrong + any_values():
            check_raises(self, BadRelation, {"relation": value}, judge, QUESTION, PLAIN, value, [])
            check_raises(self, BadRelation, {"relation": value}, keeps_cursor, PUT, PLAIN, value, True)
            check_raises(self, BadRelation, {"relation": value}, keeps_cursor, PUT, PLAIN, value, False)

    def test_wrong_values(self):
        check_raises(self, BadValues, {"index": 0}, judge, QUESTION, PLAIN, "same", [])
        check_raises(self, BadValues, {"index": 0}, judge, QUESTION, PLAIN, "same", ())
        for value in [0, -1, 10, True, None, "1", (1,), [1], 10 ** 40] + any_values():
            if not alike(value, 1) and not alike(value, 2):
                check_raises(self, BadValues, {"index": 0}, judge, QUESTION, PLAIN, "same", [value, None])
                check_raises(self, BadValues, {"index": 2}, judge, QUESTION, PLAIN, "same", (1, 3, value, 0))
        for index, values in ((1, [1, 1]), (1, [2, 1]), (2, [1, 3, 3, 2]), (9, list(range(1, 10)) + [9])):
            check_raises(self, BadValues, {"index": index}, judge, QUESTION, PLAIN, "same", values)

    def test_all_values(self):
        paper = judge(QUESTION, PLAIN, "within", list(range(1, 10)))
        self.assertEqual([paper.value_list, is_alike(paper)], [tuple(range(1, 10)), True])

    def question_of(self, which):
        """A question of four calls with these words, which makes very many tables."""
        calls = [(routine, word, value) for (routine, value), word in zip(MANY, which)]
        return Question(calls, [0, 1, 2, 3], [], ["rule"])

    def test_more_than_1000_tables(self):
        fields = {"what": "tables", "many": 1001, "most": 1000}
        for which, relations in ((0, ("around", "apart", "same")), (1, ("within", "apart"))):
            for relation in relations:
                question = self.question_of([which] * 4)
                check_raises(self, TooMany, fields, judge, question, FREE, relation, [1, 2, 3, 4])

    def test_more_than_2000_joints(self):
        question = self.question_of((0, 0, 1, 1))
        zero, one = [closed_over(question, FREE, [1], (which,), [()]) for which in (0, 1)]
        self.assertGreater(len(zero) * len(one), 2000)
        fields = {"what": "joints", "many": len(zero) * len(one), "most": 2000}
        check_raises(self, TooMany, fields, judge, question, FREE, "apart", [1])

    def test_what_is_counted_first(self):
        fields = {"what": "tables", "many": 1001, "most": 1000}
        # Few joints, but many tables of both words.
        (first, value), (second, other) = MANY[:2]
        calls = [(first, 0, value), (second, 0, other), (first, 1, value), (second, 1, other)]
        question = Question(calls, [0, 1, 2, 3], [], ["rule"])
        zero, one = [closed_over(question, FREE, [1], (which,), [()]) for which in (0, 1)]
        self.assertLessEqual(len(zero) * len(one), 2000)
        check_raises(self, TooMany, fields, judge, question, FREE, "apart", [1])

    def test_judging_of_one_call_is_soon_back(self):
        for routine, rule in itertools.product(known_deeds().values(), RULES):
            question = Question([(routine, 0, 1)], [0], [], ["rule", "trees", "places", "shared"])
            self.assertLess(seconds_of(judge, question, known_rule(rule), "same", (1, 2, 3)), 2)

    def test_equal_calls_are_equal(self):
        source = seeded(102)
        for _ in range(20):
            question = some_question(source, source.sample(ASPECTS, 2))
            if len(question.calls) > 2:
                continue
            told = [(question, FREE, "same", values) for values in ([1, 2], (1, 2))]
            papers = [judge(*arguments) for arguments in told]
            self.assertIs(papers[0].__class__, papers[1].__class__)
            if isinstance(papers[0], Alike):
                self.assertTrue(alike(papers[0].tables, papers[1].tables))
            else:
                self.assertTrue(alike([papers[0].tree, papers[0].pair], [papers[1].tree, papers[1].pair]))


class AlikeTest(unittest.TestCase):
    def paper(self, relation, question=QUESTION, values=(1, 2)):
        paper = judge(question, PLAIN, relation, values)
        return [paper.question, paper.rule, paper.relation, paper.value_list, paper.tables]

    def test_tables_in_any_order_and_twice(self):
        for relation in ("within", "around", "apart"):
            fields = self.paper(relation)
            tables = [list(part[::-1]) + list(part[:2]) for part in fields[4]]
            self.assertIs(is_alike(Alike(*fields[:4], tables)), True)

    def test_a_table_left_out(self):
        for relation in ("within", "around", "apart"):
            fields = self.paper(relation)
            for number, part in enumerate(fields[4]):
                for at in range(len(part)):
                    tables = [list(other) for other in fields[4]]
                    del tables[number][at]
                    self.assertIs(is_alike(Alike(*fields[:4], tables)), False)
            self.assertIs(is_alike(Alike(*fields[:4], ((), (), ()))), False)

    def test_a_table_changed(self):
        source = seeded(103)
        for relation in ("within", "around", "apart"):
            fields = self.paper(relation)
            for number, part in enumerate(fields[4]):
                for at, (words, there, entries) in enumerate(part):
                    entry = list(entries[0])
                    field = source.choice([3, 4])
                    entry[field] = not entry[field]
                    changed = [list(other) for other in fields[4]]
                    changed[number][at] = (words, there, (tuple(entry),) + entries[1:])
                    self.assertIs(is_alike(Alike(*fields[:4], changed)), False)
                    changed[number][at] = (words, not there, entries)
                    self.assertIs(is_alike(Alike(*fields[:4], changed)), False)
                    changed[number][at] = (words, int(there), entries)
                    self.assertIs(is_alike(Alike(*fields[:4], changed)), False)

    def test_more_tables_if_what_they_ask_is_there(self):
        fields = self.paper("within", values=(1,))
        more = self.paper("within", values=(1, 2, 3))
        self.assertIs(is_alike(Alike(*fields[:4], more[4])), True)
        get = Question([(known_deeds()["get"], 0, 1)], [0], [], ["trees"])
        few, more = self.paper("around", get, (1,)), self.paper("around", get, (1, 5))
        self.assertLess(len(few[4][0]), len(more[4][0]))
        self.assertIs(is_alike(Alike(*few[:4], more[4])), True)
        self.assertIs(is_alike(Alike(*more[:4], few[4])), False)
        # The tables of the value 5 ask for others of both words, also if 5 is no value of the list.
        self.assertIs(is_alike(Alike(*few[:4], (more[4][0], (), few[4][2]))), False)

    def test_sets_that_the_relation_does_not_name(self):
        apart = self.paper("apart")
        for relation, unnamed in (("within", 0), ("around", 1)):
            fields = self.paper(relation)
            tables = list(fields[4])
            self.assertEqual(tables[unnamed], ())
            tables[unnamed] = apart[4][unnamed][:1]
            self.assertIs(is_alike(Alike(*fields[:4], tables)), False)
        question = Question([(HAS, 0, 1)], [0], [], ["trees"])
        fields = self.paper("same", question)
        self.assertEqual(fields[4][:2], ((), ()))
        table = judge(question, PLAIN, "around", (1, 2)).tables[0][0]
        self.assertIs(is_alike(Alike(*fields[:4], ((table,), (), fields[4][2]))), False)

    def test_tables_of_other_words(self):
        fields = self.paper("apart")
        for one, other in ((0, 1), (1, 0), (0, 2), (2, 0), (1, 2)):
            tables = [list(part) for part in fields[4]]
            tables[one].append(tables[other][0])
            self.assertIs(is_alike(Alike(*fields[:4], tables)), False)

    def test_a_root_that_is_unlike(self):
        tables, told = closed(QUESTION, PLAIN, "same", [1, 2])
        self.assertIn("answers", told)
        self.assertIs(is_alike(Alike(QUESTION, PLAIN, "same", (1, 2), tables)), False)
        no_aspects = Question(QUESTION.calls, QUESTION.one, QUESTION.other, [])
        self.assertIs(is_alike(Alike(no_aspects, PLAIN, "same", (1, 2), tables)), True)

    def test_too_many_tables_and_joints(self):
        fields = self.paper("apart")
        zero, one, both = fields[4]
        self.assertIs(is_alike(Alike(*fields[:4], (zero, one, (both * 1000)[:1000]))), True)
        self.assertIs(is_alike(Alike(*fields[:4], (zero, one, (both * 1001)[:1001]))), False)
        for first, second, told in ((50, 40, True), (40, 50, True), (69, 29, False), (29, 69, False), (1000, 2, False)):
            tables = ((zero * 1000)[:first], (one * 1000)[:second], both)
            self.assertIs(is_alike(Alike(*fields[:4], tables)), told)
        fields = self.paper("around")
        zero, one, both = fields[4]
        self.assertIs(is_alike(Alike(*fields[:4], ((zero * 1000)[:1000], one, both))), True)
        self.assertIs(is_alike(Alike(*fields[:4], ((zero * 1001)[:1001], one, both))), False)

    def test_any_fields(self):
        fields = self.paper("within")
        for number in range(5):
            for value in any_values() + [fields[4][1], (fields[4],), fields[4] + ((),), fields[4][:2], "same", (1, 1)]:
                told = fields[:number] + [value] + fields[number + 1:]
                if number == 1 and isinstance(value, Rule):
                    continue
                if not alike(told[3], (1,)) and not alike(told[3], [1]):
                    self.assertIs(is_alike(Alike(*told)), False, (number, value))
        told = [fields[4][0], fields[4][1] + (None,), fields[4][2]]
        for value in any_values():
            told[1] = fields[4][1] + (value,)
            self.assertIs(is_alike(Alike(*fields[:4], told)), False)
            told[1] = value
            self.assertIs(is_alike(Alike(*fields[:4], told)), False)

    def test_wrong_values_and_relations(self):
        fields = self.paper("within")
        for values in ((), (2, 1), (1, 1), (0, 1), (1, 10), (True,), {1: 2}, "12", 12, None):
            self.assertIs(is_alike(Alike(*fields[:3], values, fields[4])), False)
        self.assertIs(is_alike(Alike(*fields[:3], [1, 2], fields[4])), True)
        for relation in ("same", "around", "apart", "none", None, ["within"]):
            self.assertIs(is_alike(Alike(*fields[:2], relation, *fields[3:])), False)

    def test_fields_are_copied_as_they_are(self):
        inner = [1, [2], {"a": [3]}]
        paper = Alike(inner, None, (inner,), 5, [])
        inner[1].append(4)
        expected = (1, (2,), {"a": (3,)})
        shown = [paper.question, paper.rule, paper.relation, paper.value_list, paper.tables]
        self.assertTrue(alike(shown, [expected, None, (expected,), 5, ()]))
        paper = Unlike([1, [2]], "a", None, [[]], ["a", "b"], {"b": [1]})
        shown = [paper.question, paper.rule, paper.relation, paper.tree, paper.pair, paper.how]
        self.assertTrue(alike(shown, [(1, (2,)), "a", None, ((),), ("a", "b"), {"b": (1,)}]))


class UnlikeTest(unittest.TestCase):
    FIELDS = [QUESTION, PLAIN, "same", Tree.of("ab", [("b", 4)]), ("a", "a"), "answers"]

    def test_right_ones(self):
        self.assertIs(is_unlike(Unlike(*self.FIELDS)), True)
        self.assertIs(is_unlike(Unlike(*self.FIELDS[:4], ["a", "a"], "answers")), True)

    def test_wrong_fields(self):
        wrong = [
            [PUT, None, (QUESTION,)], [FREE.root, None], ["within", "apart", "none", None, ("same",)],
            [Tree.of("ab", [("a", 1)]), self.FIELDS[3].rows, Tree("ab", [("", None, False), ("b", None, False)])],
            [("b", "b"), ("a", "b"), ("c", "c"), ("a",), ("a", "a", "a"), "aa", None, ("a" * 201, "a" * 201), (1, 1)],
            ["trees", "not asked", None, "rule", ("answers",)]]
        for number, values in enumerate(wrong):
            for value in values + any_values():
                told = self.FIELDS[:number] + [value] + self.FIELDS[number + 1:]
                if number == 3 and value == Tree("ab", [("", None, False)]):
                    continue
                if not (number == 4 and value in (["a", "a"], ("a", "a"))):
                    self.assertIs(is_unlike(Unlike(*told)), False, (number, value))

    def test_questions_that_do_not_ask_this(self):
        for question in (
            Question(QUESTION.calls, [0, 1], [1, 0], ["trees"]), Question(QUESTION.calls, [0, 1], [1, 0], []),
            Question(QUESTION.calls, [0, 1], [1, 0], ["answers"], {0: "no"}),
        ):
            self.assertIs(is_unlike(Unlike(question, *self.FIELDS[1:])), False)

    def test_an_error_is_no_proof(self):
        places = [("a" * length, 1, False) for length in range(200)]
        for letter in "bcdefghijk":
            places += [(letter * length, 1, False) for length in range(1, 181)]
        tree = Tree("abcdefghijk", places)
        question = Question([(PUT, 0, 1), (HAS, 0, 1)], [0, 1], [1, 0], ["answers"])
        self.assertIs(is_unlike(Unlike(question, FREE, "same", tree, ("a" + "b" * 9,) * 2, "answers")), False)
        self.assertIs(is_unlike(Unlike(question, FREE, "same", Tree("ab", places[:3]), ("ab",) * 2, "answers")), True)


def small_trees(rule):
    """All trees of the rule with places on the ways of two words of up to two letters, values 1 and 2."""
    return [tree for size in (1, 2, 3) for tree in all_trees(rule, "ab", size, [1, 2])]


class DeedTest(unittest.TestCase):
    WORDS = ["", "a", "b", "aa", "ab"]

    def deeds(self):
        """The known deeds, and others that go wrong somewhere."""
        more = [UNMARK, Routine([], [("flag", True)], []), Routine([], [("mark",), ("return", "no")], [])]
        more += [Routine([("make",)], [("return", "no")], []), Routine([], [], [("if", ("mark",), [("cut",)], [])])]
        return list(known_deeds().values()) + more

    def test_kept_by_and_saves(self):
        for rule in [known_rule(name) for name in RULES] + [Rule(KINDS, KINDS[:6]), Rule(KINDS[:3], KINDS[6:])]:
            trees = small_trees(rule)
            for routine in self.deeds():
                shown = [(tree, call(tree, routine, word, 1)) for tree in trees for word in self.WORDS]
                self.assertIs(kept_by(routine, rule), all(rule.keeps(behind) for _, (_, behind) in shown))
                self.assertIs(saves(routine, rule), all(
                    answer != "no" or behind == tree for tree, (answer, behind) in shown))

    def test_drawn_routines(self):
        source = seeded(104)
        for _ in range(30):
            routine, rule = some_routine(source), some_rule(source)
            for told, question in (
                (kept_by(routine, rule), Question([(routine, 0, 1)], [0], [], ["rule"])),
                (saves(routine, rule), Question([(routine, 0, 1)], [0], [], ["trees"], {0: "no"})),
                (undoes(routine, UNMARK, rule, "none"),
                 Question([(routine, 0, 1), (UNMARK, 0, 1)], [0, 1], [], ["trees"], {0: "none"})),
                (keeps_cursor(routine, rule, "same", False), Question([(routine, 1, 1)], [0], [], ["cursor"])),
                (keeps_cursor(routine, rule, "same", True),
                 Question([(HAS, 0, 1), (routine, 1, 1)], [0, 1], [], ["cursor"], {0: "yes"})),
            ):
                paper = judge(question, rule, "same", (1, 2))
                self.assertIs(told, isinstance(paper, Alike))
                self.assertTrue(is_alike(paper) if told else is_unlike(paper))

    def test_undoes(self):
        kinds = ("yes", "no", "none", "is", "at", "misuse")
        for rule in (PLAIN, BARE):
            trees = small_trees(rule)
            deeds = known_deeds()
            others = [deeds[name] for name in ("put", "strike", "set", "has")] + [UNMARK]
            for routine, other in itertools.product(others, others):
                shown = []
                for tree, word in itertools.product(trees, self.WORDS):
                    show = played(tree, [(routine, word, 1), (other, word, 1)])
                    shown.append((show.answers[0] or "none", show.trees[2] == tree))
                for kind in kinds:
                    self.assertIs(undoes(routine, other, rule, kind), all(
                        same for answer, same in shown if answer == kind))

    def test_undoes_with_no_kind(self):
        for value in ["", "Yes", "value", None, 0, ("is", 1), ["yes"]] + any_values():
            check_raises(self, BadWhere, {"number": 0}, undoes, PUT, UNMARK, BARE, value)

    def test_keeps_cursor(self):
        for rule in (PLAIN, BARE, FREE):
            trees = [tree for size in (1, 2, 3) for tree in all_trees(rule, "ab", size, [1])]
            for routine, relation in itertools.product(self.deeds(), RELATIONS):
                lost = {False: False, True: False}
                for tree, pair in itertools.product(trees, PAIRS[relation]):
                    if max(map(len, pair)) <= 2 and tree.has(pair[0]):
                        behind = call(tree, routine, pair[1], 1)[1]
                        if not behind.has(pair[0]):
                            lost[False] = True
                            lost[True] = lost[True] or tree.value_of(pair[0]) is not None
                for kept in (False, True):
                    self.assertIs(keeps_cursor(routine, rule, relation, kept), not lost[kept], (relation, kept))

    def test_enough_values_are_as_good_as_all(self):
        source = seeded(105)
        for _ in range(25):
            question = some_question(source, source.sample(ASPECTS, 2))
            if len(question.calls) == 1:
                few = judge(question, PLAIN, "same", enough_values(question))
                many = judge(question, PLAIN, "same", range(1, 10))
                self.assertIs(few.__class__, many.__class__)
                if isinstance(few, Unlike):
                    self.assertEqual(few.tree.size, many.tree.size)
