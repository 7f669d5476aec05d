"""Promises 1, 2 and 38: what the document says of the whole program."""

import doctest
import importlib
import inspect
import itertools
import pathlib
import unittest

from tests.helpers import alike, any_values, tupled
from tests.test_errors import FIELDS
from treeshed import errors
from treeshed.books import Book, booked, known_book, known_deeds, pairs
from treeshed.branches import Branches
from treeshed.forks import Forks, fork_on, fork_question, is_forks, judge_forks
from treeshed.groves import Grove
from treeshed.histories import answers_of, in_the_way, least_row, undone
from treeshed.judging import Alike, Unlike, is_alike, is_unlike, judge
from treeshed.merging import Clash, Merged, due, judged_merge, merged
from treeshed.planned import PlanRight, PlanWrong, is_plan_right, is_plan_wrong, judge_plan, needless
from treeshed.plans import Plan, known_plan, with_flags
from treeshed.plays import Played, call, played
from treeshed.questions import Question, enough_values, rows_of, stories_of, unlike_on
from treeshed.routines import Routine
from treeshed.rules import Rule, all_trees, flags_of, known_rule
from treeshed.sheds import Shed
from treeshed.trees import Tree
from treeshed.triples import added, case_of, closed, empty_sum
from treeshed.versions import Versions, most_new, worst_new

DEEDS, PLAIN, SETS = known_deeds(), known_rule("plain"), known_plan("sets")
PUT, STRIKE, HAS = DEEDS["put"], DEEDS["strike"], DEEDS["has"]
TREE = Tree.of("ab", [("a", 1), ("ba", 2)])
MODULES = {
    "errors": list(FIELDS) + ["ShedError"], "trees": ["Tree"],
    "rules": ["Rule", "kind_of", "flags_of", "least_part", "all_trees", "known_rule"], "routines": ["Routine"],
    "plays": ["call", "played", "Played"],
    "questions": ["Question", "relation_of", "enough_values", "rows_of", "stories_of", "unlike_on"],
    "tables": ["is_let", "longer", "whole", "is_table"],
    "judging": ["judge", "Alike", "Unlike", "is_alike", "is_unlike", "kept_by", "saves", "undoes", "keeps_cursor"],
    "books": ["Book", "pairs", "booked", "known_deeds", "known_book"],
    "histories": ["answers_of", "in_the_way", "undone", "least_row"], "plans": ["Plan", "known_plan", "with_flags"],
    "merging": ["Merged", "Clash", "merged", "due", "judged_merge"],
    "triples": ["case_of", "empty_sum", "added", "closed"],
    "planned": ["PlanRight", "PlanWrong", "judge_plan", "is_plan_right", "is_plan_wrong", "needless"],
    "forks": ["Forks", "fork_question", "fork_on", "fork_longer", "fork_whole", "judge_forks", "is_forks"],
    "versions": ["Versions", "worst_new", "most_new"], "branches": ["Branches"], "groves": ["Grove"], "sheds": ["Shed"],
}


def as_lists(value):
    """The value with its tuples as lists at every depth."""
    if isinstance(value, (list, tuple)):
        return [as_lists(part) for part in value]
    return value


def lists_and_dicts(value):
    """All lists and dicts within a value."""
    found = [value] if isinstance(value, (list, dict)) else []
    for part in value.values() if isinstance(value, dict) else value if isinstance(value, (list, tuple)) else []:
        found.extend(lists_and_dicts(part))
    return found


def some_branches(kind):
    """Branches, or a shed, with two branches and some versions."""
    branches = kind(TREE, {"put": PUT, "strike": STRIKE}, PLAIN, SETS, known_book())
    branches.fork("x", "main")
    branches.do("x", "put", "b", 1)
    return branches


class OverviewTest(unittest.TestCase):
    """[1]: what is decided for all trees and words, with a least tree, or with tables that anybody can check."""

    def test_two_rows_of_calls(self):
        for aspect, relation, told in (
            ("trees", "apart", True), ("trees", "same", False), ("answers", "apart", True), ("answers", "same", False),
            ("shared", "apart", True), ("places", "same", True), ("places", "within", False),
        ):
            question = Question([(PUT, 0, 1), (STRIKE, 1, 1)], [0, 1], [1, 0], [aspect])
            paper = judge(question, PLAIN, relation, enough_values(question))
            self.assertIs(paper.__class__, Alike if told else Unlike)
            if told:
                self.assertTrue(is_alike(paper) and sum(map(len, paper.tables)) > 0)
            else:
                self.assertTrue(is_unlike(paper))
                self.assertEqual(unlike_on(question, PLAIN, paper.tree, paper.pair), aspect)

    def test_which_deeds_commute_with_which_answers(self):
        told = booked({"put": PUT, "has": HAS}, PLAIN, "same").told_rows()
        self.assertIs(told[("put", "no", "has", "yes", "same", True)], True)
        self.assertIs(told[("put", "yes", "has", "yes", "same", True)], False)
        history = [("put", "bb", 1), ("has", "a", 1)]
        tree = undone(known_book(), DEEDS, TREE, history, 0)
        self.assertEqual([tree, answers_of(DEEDS, TREE, history)], [TREE, ("yes", "yes")])

    def test_merges_of_right_trees(self):
        self.assertTrue(is_plan_right(judge_plan(SETS, PLAIN)))
        wrong = judge_plan(known_plan("back"), PLAIN)
        self.assertTrue(is_plan_wrong(wrong))
        self.assertEqual(judged_merge(wrong.plan, PLAIN, wrong.base, wrong.one, wrong.other), wrong.how)
        self.assertIsNone(needless(SETS, PLAIN))
        self.assertIsInstance(merged(known_plan("careful"), *needless(known_plan("careful"), PLAIN)), Clash)

    def test_two_calls_side_by_side(self):
        for relation, outcomes in (("apart", {"both"}), ("same", {"first", "second"})):
            paper = judge_forks(SETS, PUT, STRIKE, PLAIN, relation, True, (1, 2))
            self.assertTrue(is_forks(paper))
            self.assertEqual({row[2] for row in paper.rows}, outcomes)
            for row in paper.rows:
                self.assertEqual(fork_on(SETS, fork_question(PUT, STRIKE, True), *row[3:]), row[:3])

    def test_a_store_of_versions_that_share_what_did_not_change(self):
        branches = some_branches(Branches)
        self.assertEqual([branches.shared_places("main", "x"), branches.stored(), branches.take("main", "x")],
                         [2, 6, True])
        self.assertEqual(branches.tree_at("main").word_items(), (("a", 1), ("b", 1), ("ba", 2)))


class ReadmeTest(unittest.TestCase):
    def test_its_sessions(self):
        text = (pathlib.Path(__file__).resolve().parent.parent / "README.md").read_text("utf-8")
        told = "\n\n".join(text.split("```\n")[1::2])
        session = doctest.DocTestParser().get_doctest(told, {}, "README.md", None, 0)
        self.assertGreater(len(session.examples), 20)
        shown = []
        runner = doctest.DocTestRunner(optionflags=doctest.IGNORE_EXCEPTION_DETAIL)
        self.assertEqual((runner.run(session, out=shown.append).failed, shown), (0, []))


class NamesTest(unittest.TestCase):
    def test_each_name_stands_in_its_module(self):
        for module, names in MODULES.items():
            found = importlib.import_module(f"treeshed.{module}")
            for name in names:
                self.assertEqual(getattr(found, name).__module__, f"treeshed.{module}", name)

    def test_errors_stand_below_shed_error_and_are_raised_as_told(self):
        for name, fields in FIELDS.items():
            error = getattr(errors, name)
            self.assertTrue(issubclass(error, errors.ShedError) and issubclass(errors.ShedError, ValueError))
            told = [f"{field}" for field in fields]
            self.assertEqual(vars(error(*told)), vars(error(**dict(zip(fields, told)))))

    def test_all_errors_are_raised_somewhere(self):
        package = "\n".join(inspect.getsource(importlib.import_module(f"treeshed.{name}")) for name in list(MODULES) + [
            "checking", "closing", "freshness", "gathering", "naming", "reading", "statements", "storing", "walking",
            "weaving"])
        for name in FIELDS:
            self.assertIn(f"raise {name}(", package)


class AttributesTest(unittest.TestCase):
    def test_classes_have_their_arguments_as_attributes(self):
        flags, book = flags_of(PLAIN), Book({("a", "yes", "b", "no", "same", True): True})
        rules = {"A": (1, False, {}), "B": (None, True, {"b": "A"})}
        question = Question([(PUT, 0, 1), (HAS, 1, 2)], [0, 1], [1], ["trees"], {0: "yes"})
        for told, expected in (
            (TREE, {"letters": "ab", "rows": TREE.rows}), (PLAIN, {"root": PLAIN.root, "others": PLAIN.others}),
            (PUT, {"down": PUT.down, "turn": PUT.turn, "up": ()}),
            (question, {"calls": ((PUT, 0, 1), (HAS, 1, 2)), "one": (0, 1), "other": (1,), "aspects": ("trees",),
                        "where": ((0, "yes"),)}),
            (Plan("base", "clash", "one", False, flags),
             {"gone": "base", "alike": "clash", "unlike": "one", "tidy": False, "flags": flags}),
            (Versions(TREE), {"tree": TREE}),
            (Branches(TREE, {"put": PUT}, PLAIN, SETS, book),
             {"tree": TREE, "deeds": {"put": PUT}, "rule": PLAIN, "plan": SETS, "book": book}),
            (Shed(TREE, {"put": PUT}, PLAIN, SETS, book),
             {"tree": TREE, "deeds": {"put": PUT}, "rule": PLAIN, "plan": SETS, "book": book}),
            (Grove("ab", rules, "B"), {"letters": "ab", "rules": rules, "root": "B"}),
        ):
            for name, value in expected.items():
                self.assertTrue(alike(getattr(told, name), value), name)

    def test_results_copy_any_fields_with_lists_as_tuples(self):
        fields = {
            Played: ["trees", "answers", "made", "struck", "old", "kept_shared"],
            Alike: ["question", "rule", "relation", "value_list", "tables"],
            Unlike: ["question", "rule", "relation", "tree", "pair", "how"], Merged: ["tree", "taken"],
            Clash: ["place"], PlanRight: ["plan", "rule", "cases"],
            PlanWrong: ["plan", "rule", "base", "one", "other", "how"],
            Forks: ["plan", "first", "second", "rule", "relation", "alike", "value_list", "rows", "tables"],
        }
        for result, names in fields.items():
            for value in any_values():
                told = result(*[value for _ in names])
                self.assertEqual(sorted(vars(told)), sorted(names))
                for name in names:
                    self.assertTrue(alike(getattr(told, name), tupled(value)))
            inner = [[1], {"a": [2]}]
            told = result(*[inner for _ in names])
            inner[0].append(3)
            inner[1]["a"].append(4)
            inner.append(5)
            for name in names:
                self.assertTrue(alike(getattr(told, name), ((1,), {"a": (2,)})))


class EqualityTest(unittest.TestCase):
    def test_objects_are_unlike_those_of_other_classes(self):
        book = Book({})
        told = [TREE, PLAIN, PUT, fork_question(PUT, PUT, True), book, SETS]
        more = [Versions(TREE), some_branches(Branches), some_branches(Shed), Grove("ab", {"A": (1, False, {})}, "A"),
                merged(SETS, TREE, TREE, TREE), Clash("")]
        for one, other in itertools.product(told, told + more + any_values()):
            self.assertIs(one == other, one is other or (isinstance(one, Tree) and isinstance(other, Tree)
                                                         and one.rows == other.rows))
            self.assertIs(other == one, one == other)
            self.assertIs(one != other, not one == other)


class ArgumentsTest(unittest.TestCase):
    def test_lists_and_tuples_are_taken_alike(self):
        kinds, history = [list(kind) for kind in PLAIN.root], [("put", "b", 1), ("has", "a", 1)]
        question = fork_question(PUT, STRIKE, True)
        cases = [
            (lambda wrap: Tree("ab", wrap([wrap(row) for row in TREE.rows])) == TREE),
            (lambda wrap: Tree.of("ab", wrap([wrap(item) for item in TREE.word_items()])) == TREE),
            (lambda wrap: Rule(wrap([wrap(kind) for kind in kinds]),
                               wrap([wrap(kind) for kind in PLAIN.others])) == PLAIN),
            (lambda wrap: Routine(*[wrap(as_lists(block)) for block in (PUT.down, PUT.turn, PUT.up)]) == PUT),
            (lambda wrap: [tree.rows for tree in all_trees(PLAIN, "ab", 2, wrap([1, 2]))]),
            (lambda wrap: played(TREE, wrap([wrap([PUT, "b", 1])])).answers),
            (lambda wrap: Question(wrap([wrap([PUT, 0, 1]), wrap([STRIKE, 1, 1])]), wrap([0, 1]), wrap([1, 0]),
                                   wrap([])) == question),
            (lambda wrap: unlike_on(Question([(PUT, 0, 1)], [0], [], ["rule"]), PLAIN, TREE, wrap(["a", "b"]))),
            (lambda wrap: judge(question, PLAIN, "same", wrap([1, 2])).tables),
            (lambda wrap: pairs(PUT, STRIKE, PLAIN, "same", True, wrap([1, 2]))),
            (lambda wrap: [answers_of(DEEDS, TREE, wrap(history)), least_row(known_book(), DEEDS, TREE, wrap(history)),
                           in_the_way(known_book(), DEEDS, TREE, wrap(history), 0)]),
            (lambda wrap: judge_forks(SETS, PUT, STRIKE, PLAIN, "same", True, wrap([1, 2])).tables),
            (lambda wrap: fork_on(SETS, question, TREE, wrap(["a", "b"]))),
            (lambda wrap: Grove("ab", {"A": wrap([1, False, {}])}, "A").rules),
            (lambda wrap: Shed.replayed(TREE, {"put": PUT}, PLAIN, SETS, known_book(),
                                        wrap([("fork", "x", "main")])).log()),
        ]
        for told in cases:
            self.assertTrue(alike(told(list), told(tuple)))

    def test_what_is_handed_in_is_not_changed(self):
        rows, kinds = [["", None, False], ["a", 1, True]], [[False, False, 0]]
        block = [["if", ["mark"], [["stop"]], []]]
        flags, keys = flags_of(PLAIN), {("a", "yes", "b", "no", "same", True): True}
        deeds, rules, where = {"put": PUT}, {"A": [1, False, {}]}, {0: "yes"}
        calls, values, log = [[PUT, 0, 1]], [1, 2], [("fork", "x", "main")]
        handed = [rows, kinds, block, flags, keys, deeds, rules, where, calls, values, log]
        before = repr(handed)
        objects = [
            Tree("ab", rows), Rule(kinds, kinds), Routine(block, [], []), Plan("bare", "take", "one", True, flags),
            Book(keys), Branches(TREE, deeds, PLAIN, SETS, Book(keys)), Grove("ab", rules, "A"),
            Question(calls, [0], [], [], where), judge_forks(SETS, PUT, STRIKE, PLAIN, "same", True, values),
            all_trees(PLAIN, "ab", 2, values), Shed.replayed(TREE, deeds, PLAIN, SETS, Book(keys), log),
            booked(deeds, PLAIN, "same"), answers_of(deeds, TREE, [("put", "a", 1)])]
        self.assertEqual(repr(handed), before)
        told = [self.told(thing) for thing in objects]
        for thing in (rows[0], rows, kinds[0], kinds, block[0], block, calls[0], calls, values, log):
            thing.append(None)
        for thing in (flags, keys, deeds, rules["A"][2], rules, where):
            thing["Z"] = None
        self.assertEqual([self.told(thing) for thing in objects], told)

    def told(self, thing):
        """What an object tells that was made of what was handed in."""
        names = ("rows", "root", "others", "down", "flags", "deeds", "rules", "calls", "where", "value_list")
        told = [repr(getattr(thing, name)) for name in names if hasattr(thing, name)]
        for name in ("told_rows", "log", "all_names"):
            if hasattr(thing, name):
                told.append(repr(getattr(thing, name)()))
        return told

    def test_lists_and_dicts_are_new_and_none_stands_twice(self):
        shed = some_branches(Shed)
        shed.hold("end", "x", "b")
        grove = Grove("ab", {"A": (1, False, {}), "B": (None, True, {"a": "A", "b": "A"}), "C": (1, False, {})}, "B")
        plan = with_flags(SETS, PLAIN)
        calls = [
            lambda: flags_of(PLAIN), lambda: all_trees(PLAIN, "ab", 2, [1]), known_deeds, known_book().told_rows,
            lambda: pairs(PUT, STRIKE, PLAIN, "same", True, [1]), lambda: plan.flags, lambda: grove.rules,
            lambda: shed.deeds, shed.holds, lambda: shed.changes("x")]
        for told in calls:
            first, second = told(), told()
            self.assertTrue(alike(repr(first), repr(first)) and len(first) > 0)
            within = lists_and_dicts(first) + lists_and_dicts(second)
            self.assertEqual(len({id(thing) for thing in within}), len(within))

    def test_what_is_returned_is_made_of_tuples(self):
        question = fork_question(PUT, STRIKE, True)
        shed = some_branches(Shed)
        low = case_of(SETS, PLAIN, TREE, TREE, TREE, "a")
        store = Versions(TREE)
        for told in (
            TREE.rows, TREE.word_items(), TREE.row("a"), PLAIN.root, PUT.turn, call(TREE, PUT, "b", 1),
            played(TREE, []).trees, rows_of(question, (0, 1)), stories_of(question, (0,), True),
            enough_values(question),
            judge(question, PLAIN, "same", [1]).tables, answers_of(DEEDS, TREE, []),
            least_row(known_book(), DEEDS, TREE, []),
            merged(SETS, TREE, TREE, TREE).taken, due(TREE, TREE, TREE, "a"), low, empty_sum(), added(empty_sum(), low),
            closed(SETS, PLAIN, empty_sum(), ((1, False), None, None)), judge_plan(SETS, PLAIN).cases,
            needless(known_plan("careful"), PLAIN), judge_forks(SETS, PUT, STRIKE, PLAIN, "same", True, [1]).rows,
            store.call(0, PUT, "b", 1), store.kept_versions(), most_new(PUT, PLAIN, 1), shed.all_names(),
            shed.history_of("x"), shed.kept_versions(), shed.do("x", "put", "a", 1), shed.log(),
            Grove("ab", {"A": (1, False, {})}, "A").row(""),
        ):
            self.assertIs(told.__class__, tuple)
            self.assertEqual(lists_and_dicts(told), [])

    def test_great_integers(self):
        great = 10 ** 40 - 1
        shed, grove = some_branches(Shed), Grove("ab", {"A": (1, False, {})}, "A")
        for error, told in (
            (errors.NoVersion, (Versions(TREE).tree_at, great)), (errors.BadRank, (grove.word_of, great)),
            (errors.BadSize, (worst_new, PUT, PLAIN, great)), (errors.NoNumber, (shed.undo, "x", -great)),
            (errors.BadValue, (shed.do, "x", "put", "a", great)), (errors.BadValue, (grove.call, PUT, "", -great)),
            (errors.NoVersion, (shed.version_tree, great)),
        ):
            self.assertRaises(error, *told)
