"""Promises 2, 9 to 13 and 44: cells that are let, tables and what they tell."""

import itertools
import unittest

from tests import oracle
from tests.drawing import rule_around, some_calls, some_pair, some_question, some_scripts, some_tree
from tests.helpers import KINDS, alike, any_values, seconds_of, seeded, some_letters
from tests.spelled import Spelled
from treeshed.books import known_deeds
from treeshed.questions import Question, unlike_on
from treeshed.routines import Routine
from treeshed.rules import Rule, known_rule
from treeshed.tables import is_let, is_table, longer, whole
from treeshed.trees import Tree

ASPECTS = ("answers", "trees", "places", "shared", "cursor", "rule")
WORDS = ((0,), (1,), (0, 1))
PUT = Routine([("if", ("not", ("next",)), [("make",)], [])],
              [("if", ("mark",), [("return", "no")], []), ("mark",), ("return", "yes")], [])
HAS = Routine([], [("if", ("and", ("ends",), ("mark",)), [("return", "yes")], []), ("return", "no")], [])
QUESTION = Question([(PUT, 0, 1), (HAS, 1, 1)], [0, 1], [1, 0], ["answers", "trees"])
LOW = ((0,), False, ((0, -1, -1, True, False, ((0, ("end", ("yes",))),)), (1, -1, -1, True, True, ())))
ABOVE, HERE = ("above",), ("here",)
WHERES = [ABOVE, HERE] + [("at", number) for number in (0, 1, 62, 63)]
ANSWERS = [("yes",), ("no",), ("none",), ("misuse", "there"), ("misuse", "none")]
ANSWERS += [("is", value) for value in range(1, 10)] + [("at", where) for where in WHERES]
OUTCOMES = [("up", where) for where in WHERES] + [("end", answer) for answer in ANSWERS]


class SessionTest(unittest.TestCase):
    def test_the_session(self):
        plain = known_rule("plain")
        low = longer(QUESTION, plain, (0,), None, ())
        self.assertTrue(alike(low, LOW))
        shown = [is_let(plain, (None, False, 0), 0, False), is_let(plain, (None, False, 0), 1, False),
            is_table(QUESTION, low)]
        self.assertTrue(alike(shown, [False, True, True]))
        below = (low, longer(QUESTION, plain, (1,), None, ()))
        self.assertIsNone(whole(QUESTION, plain, (None, False, 0), below))


class LetTest(unittest.TestCase):
    def test_missing_cells(self):
        for rule in (known_rule("free"), Rule([], [])):
            for there, root in itertools.product(range(3), (False, True)):
                self.assertTrue(alike(is_let(rule, None, there, root), there == 0 and not root))

    def test_cells_that_are_there(self):
        source = seeded(81)
        for _ in range(60):
            rule = Rule(source.sample(KINDS, 6), source.sample(KINDS, source.choice([0, 2, 6])))
            leaf = any(kind[2] == 0 for kind in rule.others)
            for value, flag, rest in itertools.product((None, 1, 9), (False, True), range(3)):
                for there, root in itertools.product(range(3), (False, True)):
                    kinds = rule.root if root else rule.others
                    let = (value is not None, flag, min(2, rest + there)) in kinds and (rest == 0 or leaf)
                    self.assertTrue(alike(is_let(rule, (value, flag, rest), there, root), let))


def parts_of(tree, pair):
    """The places, not the root, on the ways of two words, there or missing."""
    return sorted({word[:length] for word in pair for length in range(1, len(word) + 1)}, key=len)


def table_by_longer(question, rule, tree, pair, top):
    """The table of the part at a place, folded from the ends of both ways."""
    cell, below = oracle.folded(longer, question, rule, tree, pair, top)
    words = tuple(which for which in (0, 1) if pair[which].startswith(top))
    return longer(question, rule, words, cell, below)


class LongerTest(unittest.TestCase):
    def test_tables_of_drawn_trees_tell_what_they_are_to_tell(self):
        source = seeded(82)
        for _ in range(400):
            question = some_question(source, [])
            tree = some_tree(source, some_letters(source, source.randint(2, 3)), source.randint(1, 9))
            pair, rule = some_pair(source, tree.letters), rule_around(source, tree)
            for top in parts_of(tree, pair):
                table = table_by_longer(question, rule, tree, pair, top)
                expected = oracle.table_at(question, rule, oracle.rows_of_tree(tree), pair, top)
                self.assertTrue(alike(table, expected), (table, expected))
                self.assertTrue(is_table(question, table))

    def test_kept_places_are_numbered_as_they_come_up(self):
        source = seeded(83)
        keep = Routine.read(
            "down:\n    if marked:\n        keep\nturn:\n    if own:\n        keep\nup:\n    flag = true")
        last = Routine.read("down:\n    keep\n    if flag:\n        return p\nturn:\n    return node")
        greatest = 0
        for _ in range(300):
            calls = [(source.choice([keep, last]), source.randint(0, 1), source.randint(1, 2)) for _ in range(3)]
            question = Question(calls, *source.choice([([0, 1, 2], [1]), ([0, 1], [2, 1])]), [])
            tree = some_tree(source, "ab", source.randint(5, 12), [None, 1, 2])
            pair = some_pair(source, "ab")
            for top in parts_of(tree, pair):
                table = table_by_longer(question, known_rule("free"), tree, pair, top)
                expected = oracle.table_at(question, known_rule("free"), oracle.rows_of_tree(tree), pair, top)
                self.assertTrue(alike(table, expected), (table, expected))
                greatest = max([greatest] + [number for number in range(9) if f"('at', {number})" in repr(table)])
        self.assertGreater(greatest, 1)

    def test_folding_up_to_the_root_tells_what_unlike_on_tells(self):
        source = seeded(84)
        found = {}
        for _ in range(900):
            many = source.choice([1, 2, 2, 2, 3, 4])
            calls, scripts = some_calls(source, many), some_scripts(source, many)
            tree = some_tree(source, some_letters(source, source.randint(2, 3)), source.randint(1, 9))
            pair, rule = some_pair(source, tree.letters), rule_around(source, tree)
            where = {}
            if scripts[0] and source.random() < 0.3:
                where = {source.choice(scripts[0]): source.choice(["yes", "no", "none", "is", "at", "misuse"])}
            for aspects in [[aspect] for aspect in ASPECTS] + [source.sample(ASPECTS, 6)]:
                question = Question(calls, *scripts, aspects, where)
                cell, below = oracle.folded(longer, question, rule, tree, pair)
                shown = whole(question, rule, cell, below)
                self.assertEqual(shown, unlike_on(question, rule, tree, pair))
                found[shown] = found.get(shown, 0) + 1
        self.assertEqual(set(found), set(ASPECTS) | {None, "not asked"})

    def test_known_deeds_in_known_rules(self):
        source = seeded(85)
        deeds = list(known_deeds().values())
        for _ in range(300):
            rule = known_rule(source.choice(["plain", "joined"]))
            words = {"".join(source.choice("ab") for _ in range(source.randint(0, 3))) for _ in range(4)}
            tree = rule.tree_of("ab", [(word, source.randint(1, 3)) for word in words])
            calls = [(source.choice(deeds), which, source.randint(1, 2)) for which in (0, 1)]
            question = Question(calls, [0, 1], [1, 0], source.sample(ASPECTS, 6))
            pair = some_pair(source, "ab")
            cell, below = oracle.folded(longer, question, rule, tree, pair)
            self.assertEqual(whole(question, rule, cell, below), unlike_on(question, rule, tree, pair))

    def test_long_ways_of_missing_places(self):
        tree = Tree("ab", [("", None, False)])
        for one, other in ((150, 200), (200, 200), (200, 3)):
            pair = ("a" * one, "a" * other)
            question = Question([(PUT, 0, 1), (HAS, 1, 1)], [0, 1], [1, 0], ["answers", "places"])
            cell, below = self.folded_up(question, pair)
            self.assertEqual(whole(question, known_rule("free"), cell, below), unlike_on(
                question, known_rule("free"), tree, pair))

    def folded_up(self, question, pair):
        """As oracle.folded, for words of one letter alone over the root alone."""
        below = ()
        for length in range(max(map(len, pair)), 0, -1):
            words = tuple(which for which in (0, 1) if len(pair[which]) >= length)
            below = (longer(question, known_rule("free"), words, None, below),)
        return (None, False, 0), below

    def test_equal_calls_are_equal_and_nothing_is_changed(self):
        source = seeded(86)
        for _ in range(50):
            question, rule = some_question(source, ASPECTS), known_rule("free")
            below = tuple(some_table(source, question, words) for words in source.choice([((0,), (1,)), ((0, 1),)]))
            before = repr(below)
            cell = (source.choice([None, 1]), False, 1)
            self.assertTrue(alike(
                longer(question, rule, (0, 1), cell, below), longer(question, rule, (0, 1), cell, below)))
            self.assertEqual(whole(question, rule, cell, below), whole(question, rule, cell, below))
            self.assertEqual(repr(below), before)


def some_table(source, question, words, there=None):
    """A table of the form alone, whatever it tells."""
    there = source.random() < 0.6 if there is None else there
    rows = oracle.all_rows(question, words)
    many = len(rows) * (2 if there else 1)
    entries = []
    for row in rows * (2 if there else 1):
        calls = [number for number in range(len(question.calls)) if row + (number,) in rows]
        entries.append((
            source.randrange(many), source.randint(-1, many - 1), source.randint(-1, many - 1), source.random() < 0.5,
            source.random() < 0.5, tuple((number, source.choice(OUTCOMES)) for number in calls)))
    return (words, there, tuple(entries))


class AnyTableTest(unittest.TestCase):
    """What [11] and [12] tell, told once more for any tables of the form."""

    def test_longer_and_whole_over_any_tables(self):
        source = seeded(87)
        for _ in range(1500):
            question = some_question(source, source.sample(ASPECTS, source.randint(0, 6)))
            words, shape = source.choice([
                ((0,), ()), ((0,), ((0,),)), ((1,), ()), ((1,), ((1,),)), ((0, 1), ()), ((0, 1), ((0, 1),)),
                ((0, 1), ((0,),)), ((0, 1), ((1,),)), ((0, 1), ((0,), (1,)))])
            below = tuple(some_table(source, question, told) for told in shape)
            rule = Rule(source.sample(KINDS, 8), source.sample(KINDS, 8))
            cell = (source.choice([None, 1, 2]), source.random() < 0.5, source.randint(0, 2))
            self.assertTrue(all(is_table(question, table) for table in below))
            if words == (0, 1):
                self.assertEqual(whole(question, rule, cell, below), Spelled(question, rule, words, cell, below,
                    True).whole())
            if not any(table[1] for table in below) and source.random() < 0.3:
                cell = None
            table = longer(question, rule, words, cell, below)
            self.assertTrue(alike(table, Spelled(question, rule, words, cell, below, False).table()))

    def test_a_table_comes_soon(self):
        source = seeded(88)
        routine = Routine.read("down:\n" + "    mark\n" * 10 + "    unmark")
        question = Question([(routine, which, 1) for which in (0, 1, 0, 1)], [0, 1, 2, 3], [], ASPECTS)
        below = (some_table(source, question, (0,), True), some_table(source, question, (1,), True))
        self.assertLess(seconds_of(longer, question, known_rule("free"), (0, 1), (1, False, 0), below), 1)
        self.assertLess(seconds_of(whole, question, known_rule("free"), (1, False, 0), below), 1)


class FormTest(unittest.TestCase):
    def test_any_values_are_no_tables(self):
        for value in any_values():
            self.assertIs(is_table(QUESTION, value), False)

    def test_drawn_tables(self):
        source = seeded(89)
        for _ in range(300):
            question = some_question(source, [])
            table = some_table(source, question, source.choice(WORDS))
            self.assertIs(is_table(question, table), True)

    def test_each_outcome(self):
        for outcome in OUTCOMES:
            self.assertIs(is_table(QUESTION, self.with_outcome(outcome)), True, outcome)
        wrong = [
            ("up",), ("up", "above"), ("up", ("below",)), ("up", ("at",)), ("up", ("at", -1)), ("up", ("at", 64)),
            ("up", ("at", True)), ("up", ("at", "0")), ("up", ("at", 0, 0)), ("up", ("here", 0)), ("up", ["here"]),
            ("up", ("yes",)), ("up", None), ("end",), ("end", "yes"), ("end", ("yes", 1)), ("end", ("is",)),
            ("end", ("is", 0)), ("end", ("is", 10)), ("end", ("is", True)), ("end", ("is", "1")), ("end", ("misuse",)),
            ("end", ("misuse", "yes")), ("end", ("misuse", None)), ("end", ("misuse", ["there"])), ("end", ("at",)),
            ("end", ("at", 0)), ("end", ("at", ("at", 64))), ("end", ("at", ("at", ("here",)))), ("end", ("here",)),
            ("end", None), ("end", ()), ("end", ["yes"]), ("end", (["yes"],)), ("down", ("here",)), ("up", ("here",),
            1),
            ["up", ("here",)], (None, ("here",)), (1, 2), (("up",), ("here",)), "up", "ab", (), None,
        ]
        for outcome in wrong + any_values():
            self.assertIs(is_table(QUESTION, self.with_outcome(outcome)), False, outcome)

    def with_outcome(self, outcome):
        return ((0,), False, ((0, -1, -1, True, False, ((0, outcome),)), LOW[2][1]))

    def test_wrong_forms(self):
        words, there, entries = LOW
        first, second = entries
        wrong = [
            list(LOW), LOW[:2], LOW + (1,), ([0], there, entries), ((False,), there, entries), ((2,), there, entries),
            ((1,), there, entries), ((0, 1), there, entries), ((), there, entries), ((1, 0), there, entries),
            ((0, 0), there, entries), (None, there, entries), (0, there, entries), ("0", there, entries),
            (({},), there, entries), (words, 0, entries), (words, None, entries), (words, True, entries),
            (words, there, list(entries)), (words, there, ()), (words, there, entries[:1]), (words, there, entries * 2),
            (words, there, None), (words, there, {0: first, 1: second}), (words, there, (list(first), second)),
            (words, there, (first[:5], second)), (words, there, (first + (1,), second)), (words, there, (None, second)),
            (words, there, (second, second)), (words, there, (first, first)), (words, there, "ab"),
        ]
        for number, values in enumerate([
            (-1, 2, None, True, "0"), (-2, 2, None, False, "0"), (-2, 2, None, True, ()), (0, 1, None, "True"),
            (0, 1, None, ()),
            (None, (), [(0, ("up", HERE))], ((0,),), ((1, ("up", HERE)),), ((False, ("up", HERE)),),
            ([0, ("up", HERE)],),
             ((0, ("up", HERE)), (0, ("up", HERE))), ((0, ("up", HERE)), (1, ("up", HERE))), (0,),
             {0: ("up", HERE)}, "a"),
        ]):
            wrong.extend((words, there, (first[:number] + (value,) + first[number + 1:], second)) for value in values)
        for value in wrong:
            self.assertIs(is_table(QUESTION, value), False, value)

    def test_numbers_within_their_bounds(self):
        for tree, old, shared in itertools.product((0, 1), (-1, 0, 1), (-1, 0, 1)):
            entry = (tree, old, shared, False, True)
            table = ((0,), False, (entry + (((0, ("up", HERE)),),), entry + ((),)))
            self.assertIs(is_table(QUESTION, table), True)

    def test_outcomes_stand_ascending(self):
        question = Question([(PUT, 0, 1), (HAS, 0, 1)], [0, 1], [1, 0], [])
        table = some_table(seeded(90), question, (0,), False)
        turned = (table[2][0][:5] + (table[2][0][5][::-1],),) + table[2][1:]
        self.assertEqual([is_table(question, table), is_table(question, table[:2] + (turned,))], [True, False])
