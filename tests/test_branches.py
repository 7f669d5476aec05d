"""Promises 33 to 37 and 54: branches, their deeds, takes, undos, and what is forgotten when one is dropped."""

import itertools
import unittest
import unittest.mock

from tests.drawing import some_routine, some_word, tree_of
from tests.helpers import alike, any_values, check_raises, long_rows, seeded, shuffled, some_letters
from tests.merges import some_changed_map, some_map, some_plan
from tests.modelled import Model, Refused
from tests.test_books import WIDE, on_map
from tests.test_merging import two_wide_sides
from tests.test_versions import part
from treeshed.books import Book, known_book, known_deeds
from treeshed.branches import Branches
from treeshed.errors import (
    BadDeed, BadName, BadValue, BadWord, BrokenRule, InTheWay, NoBranch, NoDeed, NoNumber, NoVersion, ShedError,
    TooMany,
    UsedName)
from treeshed.merging import Clash
from treeshed.plans import Plan, known_plan, with_flags
from treeshed.plays import call
from treeshed.routines import Routine
from treeshed.rules import Rule, known_rule
from treeshed.trees import Tree

DEEDS, PLAIN, FREE = known_deeds(), known_rule("plain"), known_rule("free")
SETS, LATE = known_plan("sets"), known_plan("late")
NAMES = ("main", "x", "y", "z", "w")
FIVE = {name: DEEDS[name] for name in ("has", "get", "put", "set", "strike")}
EMPTY = Tree("ab", [("", None, False)])


def some_book(source, deeds):
    """A book that tells True of many keys, right or not."""
    rows = {}
    kinds = ("yes", "no", "none", "is", "at", "misuse")
    for key in itertools.product(deeds, kinds, deeds, kinds, ("same", "within", "around", "apart"), (True, False)):
        if source.random() < 0.8:
            rows[key] = source.random() < 0.85
    return Book(rows)


def some_arguments(source):
    """What branches are made of: the rule plain and known deeds, or any trees and odd deeds."""
    letters = some_letters(source, 2)
    if source.random() < 0.5:
        plan = source.choice([SETS, LATE, known_plan("careful"), known_plan("back"), some_plan(source)])
        tree = PLAIN.tree_of(letters, list(some_map(source, letters, 4).items()))
        return tree, dict(FIVE), PLAIN, plan, source.choice([known_book(), known_book(), some_book(source, FIVE)])
    deeds = {"odd": some_routine(source), "even": some_routine(source), "put": DEEDS["put"], "strike": DEEDS["strike"]}
    return tree_of(source, FREE, letters, 2), deeds, FREE, some_plan(source), some_book(source, deeds)


def refused(call_it, *arguments):
    """What a call returns, or the error's name and field if it is refused."""
    try:
        told = call_it(*arguments)
    except Refused as error:
        return error.args
    except (BrokenRule, InTheWay) as error:
        return error.__class__.__name__, getattr(error, "number", None)
    return told.place if isinstance(told, Clash) else told


def some_step(source, model):
    """Something to be done with branches, as a method's name and arguments."""
    names, chance = list(model.branches), source.random()
    free = [name for name in NAMES if name not in names]
    name = source.choice(names)
    if free and (chance < 0.12 or len(names) == 1 and chance < 0.3):
        return "fork", source.choice(free), name
    if len(names) > 1 and chance < 0.35:
        return "take", name, source.choice([other for other in names if other != name])
    long = [other for other in names if model.branches[other]["list"]]
    if long and chance < 0.47:
        name = source.choice(long)
        return "undo", name, source.randrange(len(model.branches[name]["list"]))
    if chance < 0.53 and len(names) > 1 or chance < 0.48:
        return "drop", name
    deed = source.choice(list(model.given))
    return "do", name, deed, some_word(source, model.letters, source.choice([1, 1, 3])), source.randint(1, 3)


def some_steps(source, model):
    """Steps one behind the other: ahead of some takes both branches change one word."""
    step = some_step(source, model)
    if step[0] != "take" or source.random() < 0.5:
        return [step]
    word, deed = some_word(source, model.letters, 1), "set" if "set" in model.given else "put"
    both = [("do", name, source.choice([deed, deed, "strike"]), word, source.randint(1, 3)) for name in step[1:]]
    return both + [step]


def check_told(test, branches, model):
    """Checks that branches tell just what the model does."""
    test.assertTrue(alike(branches.all_names(), tuple(model.branches)))
    test.assertTrue(alike(branches.kept_versions(), tuple(sorted(model.record.roots))))
    test.assertTrue(alike(branches.stored(), model.record.stored()))
    for name, branch in model.branches.items():
        test.assertTrue(alike(branches.head_of(name), branch["head"]))
        test.assertTrue(alike(branches.history_of(name), tuple(told[:3] for told in branch["list"])))
        test.assertEqual(branches.tree_at(name), branches.version_tree(branch["head"]))
    for one, other in itertools.product(model.branches, repeat=2):
        heads = [model.branches[name]["head"] for name in (one, other)]
        test.assertTrue(alike(branches.shared_places(one, other), model.record.in_common(*heads)))
        if one != other:
            test.assertTrue(alike(branches.base_of(one, other), model.bases[frozenset([one, other])]))
    for number, root in model.record.roots.items():
        test.assertEqual(part(branches.version_tree(number)), root.part())
        test.assertTrue(branches.rule.keeps(branches.version_tree(number)))
        test.assertTrue(alike(branches.new_places(number), model.record.fresh[number]))


class SessionTest(unittest.TestCase):
    def test_the_session(self):
        deeds = {"put": DEEDS["put"], "strike": DEEDS["strike"]}
        branches = Branches(Tree.of("ab", []), deeds, PLAIN, SETS, known_book())
        self.assertEqual([branches.fork(name, "main") for name in ("x", "y", "z")], [0, 0, 0])
        told = [branches.do("y", "put", "a", 1), branches.take("z", "y"), branches.take("x", "z")]
        self.assertTrue(alike(told + [branches.do("x", "strike", "a", 1)], [(1, "yes"), True, True, (4, "yes")]))
        told = [branches.base_of("x", "y"), branches.take("x", "y"), branches.tree_at("x").word_items()]
        self.assertTrue(alike(told + [branches.base_of("x", "y")], [0, True, (("a", 1),), 1]))
        told = [branches.history_of("y"), branches.undo("y", 0), branches.take("x", "y")]
        self.assertTrue(alike(told + [branches.tree_at("x").word_items()], [(("put", "a", 1),), 0, True, ()]))
        told = [branches.drop("y"), branches.kept_versions(), branches.stored(), branches.drop("x")]
        told += [branches.kept_versions(), branches.stored()]
        self.assertTrue(alike(told, [0, (0, 2, 3, 4, 5, 6), 4, 1, (0, 2), 3]))


class BranchesTest(unittest.TestCase):
    def test_drawn_steps(self):
        source = seeded(261)
        many = {}
        for _ in range(250):
            arguments = some_arguments(source)
            branches, model = Branches(*arguments), Model(*arguments)
            for _ in range(source.randint(1, 24)):
                if not model.branches:
                    break
                for step in some_steps(source, model):
                    told = refused(getattr(branches, step[0]), *step[1:])
                    self.assertTrue(alike(told, refused(getattr(model, step[0]), *step[1:])), step)
                    found = (step[0], told[0] if told and isinstance(told, tuple) else isinstance(told, str))
                    many[found] = many.get(found, 0) + 1
            check_told(self, branches, model)
        for step in (("take", True), ("take", False), ("undo", "InTheWay"), ("undo", False), ("fork", False),
                     ("drop", False)):
            self.assertGreater(many[step], 20, step)

    def test_at_first(self):
        branches = Branches(Tree.of("ab", [("ab", 1)]), FIVE, PLAIN, SETS, known_book())
        told = [branches.all_names(), branches.head_of("main"), branches.history_of("main"), branches.stored()]
        told += [branches.kept_versions(), branches.new_places(0), branches.shared_places("main", "main")]
        self.assertTrue(alike(told, [("main",), 0, (), 3, (0,), 3, 3]))

    def test_names_come_in_their_order(self):
        branches = Branches(EMPTY, FIVE, PLAIN, SETS, known_book())
        for name in ("z", "a", "y"):
            branches.fork(name, "main")
        branches.drop("main")
        branches.drop("a")
        branches.fork("main", "z")
        branches.fork("a", "y")
        self.assertEqual(branches.all_names(), ("z", "y", "main", "a"))

    def test_a_deed_stands_in_the_list_whatever_it_answers(self):
        branches = Branches(EMPTY, FIVE, PLAIN, SETS, known_book())
        told = [branches.do("main", "strike", "a", 3), branches.do("main", "get", "a", 1)]
        self.assertTrue(alike(told, [(1, "no"), (2, "no")]))
        self.assertTrue(alike(branches.history_of("main"), (("strike", "a", 3), ("get", "a", 1))))

    def test_a_fork_begins_anew_and_the_source_goes_on(self):
        branches = Branches(EMPTY, FIVE, PLAIN, SETS, known_book())
        branches.do("main", "put", "a", 1)
        self.assertEqual(branches.fork("x", "main"), 1)
        self.assertEqual([branches.history_of("x"), len(branches.history_of("main"))], [(), 1])
        check_raises(self, NoNumber, {"number": 0}, branches.undo, "x", 0)
        self.assertEqual([branches.undo("main", 0), branches.head_of("x")], [0, 1])

    def test_a_take_begins_anew(self):
        branches = Branches(EMPTY, FIVE, PLAIN, SETS, known_book())
        branches.fork("x", "main")
        branches.do("x", "put", "a", 1)
        branches.do("main", "put", "b", 1)
        self.assertIs(branches.take("x", "main"), True)
        self.assertEqual([branches.history_of("x"), branches.history_of("main")], [(), (("put", "b", 1),)])
        branches.do("x", "put", "ab", 1)
        branches.do("x", "put", "bb", 1)
        # The others are done anew from the beginning, which is what the take has made.
        self.assertEqual(branches.undo("x", 0), 6)
        self.assertEqual(branches.tree_at("x").word_items(), (("a", 1), ("b", 1), ("bb", 1)))
        self.assertEqual(branches.undo("x", 0), 3)

    def test_a_clash_changes_nothing(self):
        branches = Branches(EMPTY, FIVE, PLAIN, SETS, known_book())
        branches.fork("x", "main")
        branches.do("x", "put", "a", 1)
        branches.do("main", "put", "a", 2)
        told = branches.take("x", "main")
        self.assertIs(told.__class__, Clash)
        self.assertEqual([told.place, branches.head_of("x"), branches.base_of("x", "main")], ["a", 1, 0])
        self.assertEqual([branches.history_of("x"), branches.kept_versions()], [(("put", "a", 1),), (0, 1, 2)])

    def test_the_base_of_a_take_is_that_of_the_two_alone(self):
        branches = Branches(EMPTY, FIVE, PLAIN, SETS, known_book())
        for name in ("x", "y", "z"):
            branches.fork(name, "main")
            branches.do(name, "put", "a" * (1 + branches.head_of(name)), 1)
        heads = {name: branches.head_of(name) for name in ("x", "y", "z")}
        branches.take("x", "y")
        told = {pair: branches.base_of(*pair) for pair in itertools.combinations(("main", "x", "y", "z"), 2)}
        self.assertEqual(told, {pair: heads["y"] if pair == ("x", "y") else 0 for pair in told})
        # A fork has the bases of its source, whose head is its own base.
        branches.fork("w", "x")
        self.assertEqual([branches.base_of("w", "y"), branches.base_of("w", "z")], [heads["y"], 0])
        self.assertEqual(branches.base_of("x", "w"), branches.head_of("x"))

    def test_the_parenthesis_on_bases(self):
        branches = Branches(EMPTY, FIVE, PLAIN, SETS, known_book())
        for name in ("x", "y"):
            branches.fork(name, "main")
        branches.do("y", "put", "a", 1)
        branches.take("x", "y")
        branches.undo("y", 0)
        self.assertEqual(branches.tree_at("x").word_items(), (("a", 1),))
        # Who takes y undoes nothing by it; then y no longer has what their base has.
        branches.take("x", "y")
        self.assertEqual(branches.tree_at("x").word_items(), ())

    def test_undo_asks_for_the_kinds_of_the_last_answers(self):
        # Without the first put the second one answers yes, and then a strike of the word is in its way.
        branches = Branches(EMPTY, FIVE, PLAIN, SETS, known_book())
        for deed, word in (("put", "a"), ("put", "a"), ("has", "a")):
            branches.do("main", deed, word, 1)
        check_raises(self, InTheWay, {"number": 1}, branches.undo, "main", 0)
        self.assertEqual(branches.undo("main", 1), 5)
        self.assertEqual(branches.history_of("main"), (("put", "a", 1), ("has", "a", 1)))
        book = Book({**known_book().told_rows(), ("put", "yes", "put", "no", "same", True): True,
                     ("put", "yes", "has", "yes", "same", True): True})
        branches = Branches(EMPTY, FIVE, PLAIN, SETS, book)
        for deed in ("put", "put", "has"):
            branches.do("main", deed, "a", 1)
        branches.undo("main", 0)
        told = Book({**known_book().told_rows(), ("put", "yes", "put", "no", "same", True): True})
        branches = Branches(EMPTY, FIVE, PLAIN, SETS, told)
        for deed in ("put", "put", "set"):
            branches.do("main", deed, "a", 1)
        # ("put", "no", "set", "no") commutes, ("put", "yes", "set", "no") does not.
        branches.undo("main", 1)
        check_raises(self, InTheWay, {"number": 1}, branches.undo, "main", 0)

    def test_deeds_done_anew_are_known_by_their_new_answers(self):
        rows = {**known_book().told_rows(), ("put", "yes", "put", "no", "same", True): True,
                ("put", "yes", "has", "yes", "same", True): True}
        del rows[("put", "no", "has", "yes", "same", True)]
        branches = Branches(EMPTY, FIVE, PLAIN, SETS, Book(rows))
        for deed in ("put", "put", "has"):
            branches.do("main", deed, "a", 1)
        # The second put answered no, of which the book tells nothing; behind the undo it has answered yes.
        check_raises(self, InTheWay, {"number": 2}, branches.undo, "main", 1)
        branches.undo("main", 0)
        self.assertEqual(branches.undo("main", 0), 6)

    def test_undoing_and_doing_again(self):
        source = seeded(262)
        many = 0
        for _ in range(120):
            branches = Branches(PLAIN.tree_of("ab", list(some_map(source, "ab", 3).items())), FIVE, PLAIN, SETS,
                                known_book())
            answers = []
            for _ in range(source.randint(1, 5)):
                deed = (source.choice(list(FIVE)), some_word(source, "ab", 2), source.randint(1, 2))
                answers.append((deed, branches.do("main", *deed)[1]))
            tree, number = branches.tree_at("main"), source.randrange(len(answers))
            try:
                branches.undo("main", number)
            except InTheWay:
                continue
            many += 1
            deed, answer = answers.pop(number)
            self.assertEqual(branches.history_of("main"), tuple(told for told, _ in answers))
            behind = branches.version_tree(0)
            for (name, word, value), told in answers:
                shown, behind = call(behind, FIVE[name], word, value)
                self.assertEqual(shown, told)
            self.assertEqual(branches.tree_at("main"), behind)
            self.assertEqual(branches.do("main", *deed)[1], answer)
            self.assertEqual(branches.tree_at("main"), tree)
        self.assertGreater(many, 50)


class DropTest(unittest.TestCase):
    def test_version_0_is_of_main(self):
        branches = Branches(Tree.of("ab", [("a", 1)]), FIVE, PLAIN, SETS, known_book())
        branches.do("main", "put", "b", 1)
        branches.fork("x", "main")
        self.assertEqual([branches.drop("main"), branches.kept_versions()], [1, (1,)])
        check_raises(self, NoVersion, {"number": 0}, branches.version_tree, 0)

    def test_the_last_branch(self):
        branches = Branches(Tree.of("ab", [("a", 1)]), FIVE, PLAIN, SETS, known_book())
        branches.do("main", "put", "b", 1)
        self.assertEqual([branches.drop("main"), branches.all_names(), branches.kept_versions()], [4, (), ()])
        self.assertEqual(branches.stored(), 0)
        for told in ((branches.head_of, "main"), (branches.fork, "x", "main"), (branches.drop, "main")):
            check_raises(self, NoBranch, {"name": "main"}, *told)

    def test_heads_beginnings_and_bases_stay(self):
        branches = Branches(EMPTY, FIVE, PLAIN, SETS, known_book())
        for word in ("a", "b", "aa", "bb"):
            branches.do("main", "put", word, 1)
            branches.fork("x" * branches.head_of("main"), "main")
        branches.take("x", "main")
        branches.do("main", "put", "ab", 1)
        # 1 is the head of no branch any more, but the base of x with none that is there; 4 is one of x and main.
        self.assertEqual([branches.base_of("x", "main"), branches.base_of("x", "xx")], [4, 1])
        branches.drop("main")
        self.assertEqual(branches.kept_versions(), (1, 2, 3, 4, 5))
        branches.drop("xxxx")
        self.assertEqual(branches.kept_versions(), (1, 2, 3, 5))
        branches.drop("x")
        self.assertEqual(branches.kept_versions(), (2, 3))
        branches.drop("xx")
        self.assertEqual(branches.kept_versions(), (3,))

    def test_a_beginning_that_another_branch_has_made(self):
        branches = Branches(EMPTY, FIVE, PLAIN, SETS, known_book())
        branches.do("main", "put", "a", 1)
        branches.fork("x", "main")
        branches.do("x", "put", "b", 1)
        branches.drop("main")
        self.assertEqual(branches.kept_versions(), (1, 2))
        self.assertEqual(branches.undo("x", 0), 1)

    def test_versions_of_a_branch_that_is_there_stay(self):
        branches = Branches(EMPTY, FIVE, PLAIN, SETS, known_book())
        branches.fork("x", "main")
        for word in ("a", "b", "aa"):
            branches.do("main", "put", word, 1)
        branches.undo("main", 0)
        self.assertEqual([branches.drop("x"), branches.kept_versions()], [0, (0, 1, 2, 3, 4, 5)])

    def test_a_name_is_used_again(self):
        branches = Branches(EMPTY, FIVE, PLAIN, SETS, known_book())
        branches.fork("x", "main")
        branches.do("x", "put", "a", 1)
        branches.fork("y", "x")
        branches.do("x", "put", "b", 1)
        branches.drop("x")
        self.assertEqual(branches.kept_versions(), (0, 1))
        self.assertEqual([branches.fork("x", "main"), branches.base_of("x", "y")], [0, 0])
        # What the first x has made is of no branch that is there.
        branches.drop("y")
        self.assertEqual(branches.kept_versions(), (0,))
        self.assertEqual(branches.do("x", "put", "a", 1), (3, "yes"))

    def test_what_stays_for_a_base_goes_with_it(self):
        branches = Branches(EMPTY, FIVE, PLAIN, SETS, known_book())
        for name in ("x", "y", "z"):
            branches.fork(name, "main")
        branches.do("y", "put", "a", 1)
        branches.take("z", "y")
        branches.do("y", "put", "b", 1)
        branches.drop("y")
        self.assertEqual(branches.kept_versions(), (0, 2))


class MapsTest(unittest.TestCase):
    """Branches of maps: an exact rule, a plan as [22] asks, and put, set and strike."""

    def merged_map(self, plan, base, one, other):
        """The map merged word by word; None if some word was changed by both as the plan refuses it."""
        made = {}
        for word in sorted(set(base) | set(one) | set(other)):
            values = [told.get(word) for told in (base, one, other)]
            if values[1] == values[0]:
                value = values[2]
            elif values[2] == values[0]:
                value = values[1]
            elif values[1] == values[2]:
                if plan.alike == "clash":
                    return None
                value = values[1]
            elif plan.unlike == "clash":
                return None
            else:
                value = values[1 if plan.unlike == "one" else 2]
            if value is not None:
                made[word] = value
        return made

    def test_heads_are_the_trees_of_their_maps(self):
        source = seeded(263)
        clashes, taken = 0, 0
        for _ in range(150):
            plan = Plan("bare", source.choice(["take", "take", "clash"]), source.choice(["clash", "one", "other"]),
                        True)
            words = some_map(source, "ab", 4)
            branches = Branches(PLAIN.tree_of("ab", list(words.items())), FIVE, PLAIN,
                                source.choice([plan, with_flags(plan, PLAIN)]), known_book())
            maps, heads = {0: words}, {"main": 0}
            for _ in range(source.randint(3, 14)):
                name, chance = source.choice(list(heads)), source.random()
                if chance < 0.2 and len(heads) < 4:
                    new = [told for told in NAMES if told not in heads][0]
                    branches.fork(new, name)
                    heads[new] = heads[name]
                elif chance < 0.7 or len(heads) == 1:
                    deed, word = source.choice(["put", "set", "set", "strike"]), some_word(source, "ab", 1)
                    value = source.randint(1, 3)
                    behind = dict(maps[heads[name]])
                    expected = on_map(deed, behind, word, value)
                    heads[name], answer = branches.do(name, deed, word, value)
                    self.assertEqual(answer, expected)
                    maps[heads[name]] = behind
                else:
                    other = source.choice([told for told in heads if told != name])
                    for told, value in ((name, 7), (other, 8)) if source.random() < 0.4 else ():
                        behind = {**maps[heads[told]], "b": value}
                        heads[told] = branches.do(told, "set", "b", value)[0]
                        maps[heads[told]] = behind
                    base = maps[branches.base_of(name, other)]
                    made = self.merged_map(plan, base, maps[heads[name]], maps[heads[other]])
                    told = branches.take(name, other)
                    self.assertIs(told is True, made is not None)
                    clashes, taken = clashes + (made is None), taken + (made is not None)
                    if made is not None:
                        heads[name] = branches.head_of(name)
                        maps[heads[name]] = made
                for told, head in heads.items():
                    self.assertEqual(branches.tree_at(told), PLAIN.tree_of("ab", list(maps[head].items())))
        self.assertGreater(min(clashes, taken), 15)

    def test_takes_in_any_order(self):
        source = seeded(264)
        many = 0
        while many < 30:
            base = some_map(source, "ab", 4)
            sides = {name: some_changed_map(source, base, "ab", 3) for name in ("x", "y", "z")}
            pairs = itertools.combinations(sides.values(), 2)
            if any(self.merged_map(SETS, base, *pair) is None for pair in pairs):
                continue
            many += 1
            last = []
            for order in itertools.permutations(sides):
                branches = Branches(PLAIN.tree_of("ab", list(base.items())), FIVE, PLAIN, SETS, known_book())
                for name in shuffled(source, sides):
                    branches.fork(name, "main")
                    for word in set(base) | set(sides[name]):
                        deed = "strike" if word not in sides[name] else "set"
                        branches.do(name, deed, word, sides[name].get(word, 1))
                for name in order:
                    self.assertIs(branches.take("main", name), True)
                last.append(branches.tree_at("main"))
            self.assertTrue(all(tree == last[0] for tree in last))


class MadeOfTest(unittest.TestCase):
    def test_attributes(self):
        book, tree = known_book(), Tree.of("ab", [("a", 1)])
        branches = Branches(tree, FIVE, PLAIN, SETS, book)
        branches.do("main", "put", "b", 1)
        self.assertEqual([branches.tree, branches.rule, branches.plan, branches.book], [tree, PLAIN, SETS, book])
        self.assertEqual(list(branches.deeds.items()), list(FIVE.items()))
        self.assertIsNot(branches.deeds, branches.deeds)

    def test_deeds_are_neither_changed_nor_kept(self):
        deeds = dict(FIVE)
        branches = Branches(EMPTY, deeds, PLAIN, SETS, known_book())
        deeds.clear()
        branches.deeds.clear()
        self.assertEqual([branches.do("main", "put", "a", 1), len(branches.deeds)], [(1, "yes"), 5])
        self.assertEqual(Branches(EMPTY, {}, PLAIN, SETS, known_book()).deeds, {})

    def test_wrong_names(self):
        for name in ["", "A", "put1", "a b", "a" * 21, "\u00e9", None, 1, True, ("a",), ()]:
            for deeds in ({name: DEEDS["put"]}, {"a" * 20: Routine([], [("unmark",)], []), name: DEEDS["put"], "": 1}):
                broken = Tree("ab", [("", None, True)])
                check_raises(self, BadName, {"name": name}, Branches, broken, deeds, PLAIN, SETS, known_book())

    def test_deeds_that_do_not_keep_the_rule(self):
        bad, worse = Routine([], [("flag", True)], []), Routine.read("turn:\n    unmark")
        broken = Tree("ab", [("", None, True)])
        for deeds, name in (({"put": DEEDS["put"], "x": bad, "a": worse}, "x"), ({"a": worse, "x": bad}, "a")):
            check_raises(self, BadDeed, {"name": name}, Branches, broken, deeds, PLAIN, SETS, known_book())
        # In another rule they are let.
        Branches(broken, {"x": bad, "a": worse}, FREE, SETS, known_book())

    def test_too_many_tables(self):
        fields = {"what": "tables", "many": 6, "most": 5}
        with unittest.mock.patch("treeshed.closing.MOST_TABLES", 5):
            check_raises(self, TooMany, fields, Branches, EMPTY, {"wide": WIDE}, FREE, SETS, known_book())
            bad = Routine([], [("flag", True)], [])
            check_raises(self, BadName, {"name": "A"}, Branches, EMPTY, {"wide": WIDE, "A": bad}, FREE, SETS, Book({}))

    def test_trees_that_do_not_keep_the_rule(self):
        for tree in (Tree("ab", [("", None, True)]), Tree("ab", [("", None, False), ("a", None, False)])):
            check_raises(self, BrokenRule, {}, Branches, tree, FIVE, PLAIN, SETS, known_book())
        check_raises(self, BrokenRule, {}, Branches, EMPTY, {}, Rule([], []), SETS, known_book())


class ErrorTest(unittest.TestCase):
    def branches(self):
        """Branches main and x, with a deed each."""
        branches = Branches(Tree.of("ab", [("ab", 1)]), FIVE, PLAIN, SETS, known_book())
        branches.fork("x", "main")
        branches.do("x", "put", "a", 1)
        branches.do("main", "put", "b", 1)
        return branches

    def names(self):
        """Values that are no names of branches that are there."""
        return ["y", "", "Main", "x ", "X", b"x", ("x",), ["main"]] + any_values()

    def told(self, branches):
        """All that branches tell."""
        names = branches.all_names()
        return [names, branches.stored(), [(branches.head_of(name), branches.history_of(name)) for name in names],
                [branches.base_of(*pair) for pair in itertools.combinations(names, 2)],
                [(number, branches.version_tree(number).rows) for number in branches.kept_versions()]]

    def test_no_branch(self):
        branches = self.branches()
        before = self.told(branches)
        for name in self.names():
            fields = {"name": name}
            for told in (
                (branches.head_of, name), (branches.tree_at, name), (branches.history_of, name), (branches.drop, name),
                (branches.shared_places, name, None), (branches.shared_places, "x", name),
                (branches.base_of, name, None), (branches.base_of, "x", name), (branches.take, name, 7),
                (branches.take, "main", name), (branches.fork, "A", name), (branches.fork, "x", name),
                (branches.fork, "new", name), (branches.do, name, "none", 1, 1), (branches.do, name, "put", "a", 1),
                (branches.undo, name, 7), (branches.undo, name, 0),
            ):
                check_raises(self, NoBranch, fields, *told)
        for name in ("main", "x"):
            check_raises(self, NoBranch, {"name": name}, branches.take, name, name)
            check_raises(self, NoBranch, {"name": name}, branches.base_of, name, name)
            self.assertGreater(branches.shared_places(name, name), 2)
        check_raises(self, NoBranch, {"name": "y"}, branches.take, "y", "y")
        self.assertEqual(self.told(branches), before)

    def test_no_version(self):
        branches = self.branches()
        branches.drop("x")
        for value in [1, 3, -1, True, False, "0", None] + any_values():
            if isinstance(value, bool) or value not in (0, 2):
                check_raises(self, NoVersion, {"number": value}, branches.version_tree, value)
                check_raises(self, NoVersion, {"number": value}, branches.new_places, value)
        self.assertEqual([branches.new_places(0), branches.new_places(2)], [3, 2])

    def test_names_of_forks(self):
        branches = self.branches()
        for name in ["", "A", "x1", "a b", "a" * 21, "\u00e9"] + any_values():
            if not isinstance(name, str) or name not in ("a", "ab", "ba"):
                check_raises(self, BadName, {"name": name}, branches.fork, name, "main")
        for name in ("main", "x"):
            check_raises(self, UsedName, {"name": name}, branches.fork, name, "x")
        self.assertEqual([branches.fork("a" * 20, "x"), branches.all_names()], [1, ("main", "x", "a" * 20)])

    def test_no_deed(self):
        branches = self.branches()
        for deed in ["", "Put", "begins", b"put", ("put",)] + any_values():
            check_raises(self, NoDeed, {"name": deed}, branches.do, "x", deed, None, None)

    def test_wrong_words_and_values(self):
        branches = self.branches()
        for value in ["z", "A", "a" * 201] + any_values():
            if not isinstance(value, str) or value.strip("ab") or len(value) > 200:
                check_raises(self, BadWord, {"number": 0}, branches.do, "x", "put", value, 0)
        for value in [0, 10, True, None, "1"] + any_values():
            if not isinstance(value, int) or isinstance(value, bool) or not 1 <= value <= 9:
                check_raises(self, BadValue, {"number": 0}, branches.do, "x", "put", "a", value)
        self.assertEqual(branches.do("x", "put", "a" * 200, 9), (3, "yes"))

    def test_no_number(self):
        branches = self.branches()
        branches.do("x", "put", "bb", 1)
        for value in [-1, 2, 10 ** 40, True, False, "0", None] + any_values():
            if isinstance(value, bool) or value not in (0, 1):
                check_raises(self, NoNumber, {"number": value}, branches.undo, "x", value)
        self.assertEqual(branches.undo("x", 1), 4)

    def test_in_the_way(self):
        branches = Branches(EMPTY, FIVE, PLAIN, SETS, known_book())
        for deed, word in (("put", "a"), ("has", "b"), ("strike", "a"), ("has", "a")):
            branches.do("main", deed, word, 1)
        before = self.told(branches)
        for number, later in ((0, 2), (2, 3)):
            check_raises(self, InTheWay, {"number": later}, branches.undo, "main", number)
        self.assertEqual(self.told(branches), before)
        # A book that tells nothing, or False, of a key.
        for rows in ({}, {("put", "yes", "has", "no", "apart", True): False}):
            branches = Branches(EMPTY, FIVE, PLAIN, SETS, Book(rows))
            branches.do("main", "put", "a", 1)
            branches.do("main", "has", "b", 1)
            check_raises(self, InTheWay, {"number": 1}, branches.undo, "main", 0)
            self.assertEqual(branches.undo("main", 1), 3)

    def test_a_take_that_breaks_the_rule(self):
        untidy = Branches(Tree.of("ab", [("a", 1), ("aa", 1), ("ab", 1)]), FIVE, PLAIN, known_plan("back"),
                          known_book())
        untidy.fork("x", "main")
        for name, word in (("x", "aa"), ("main", "ab")):
            untidy.do(name, "strike", word, 1)
            untidy.do(name, "strike", "a", 1)
        before = self.told(untidy)
        check_raises(self, BrokenRule, {}, untidy.take, "x", "main")
        self.assertEqual(self.told(untidy), before)
        with unittest.mock.patch("treeshed.storing.MOST_VERSIONS", 1):
            check_raises(self, BrokenRule, {}, untidy.take, "x", "main")

    def test_too_many_places(self):
        letters = "abcdefghijk"
        branches = Branches(Tree(letters, long_rows(letters)), {"put": DEEDS["put"], "strike": DEEDS["strike"]},
                            known_rule("bare"), SETS, Book({}))
        check_raises(self, TooMany, {"what": "places", "many": 2002, "most": 2000}, branches.do, "main", "put", "kk", 1)
        self.assertEqual([branches.history_of("main"), branches.head_of("main")], [(), 0])

    def test_too_many_places_in_a_take(self):
        one, other = two_wide_sides(1000, 1000)
        base = Tree("abcdefghijkl", [("", None, False)])
        fill = Routine.read("down:\n    if not next:\n        make\nturn:\n    mark")
        branches = Branches(base, {"fill": fill}, known_rule("bare"), SETS, Book({}))
        branches.fork("x", "main")
        for name, tree in (("main", one), ("x", other)):
            for row in tree.rows:
                if len(row[0]) == 200:
                    branches.do(name, "fill", row[0], 1)
        self.assertEqual([branches.tree_at(name).size for name in ("main", "x")], [1001, 1001])
        fields = {"what": "places", "many": 2001, "most": 2000}
        before = self.told(branches)
        check_raises(self, TooMany, fields, branches.take, "main", "x")
        self.assertEqual(self.told(branches), before)

    def test_too_many_places_in_an_undo(self):
        # Without the flag that the first deed takes off, the second one makes a place more.
        deeds = {"flag": Routine.read("turn:\n    flag = false"),
                 "make": Routine.read("down:\n    if flag and not next:\n        make")}
        rows = [("", None, True)] + long_rows("abcdefghijk")[1:]
        book = Book({("flag", "none", "make", "none", "within", True): True})
        branches = Branches(Tree("abcdefghijk", rows), deeds, FREE, SETS, book)
        branches.do("main", "flag", "", 1)
        branches.do("main", "make", "k", 1)
        before = self.told(branches)
        fields = {"what": "places", "many": 2001, "most": 2000}
        check_raises(self, TooMany, fields, branches.undo, "main", 0)
        with unittest.mock.patch("treeshed.storing.MOST_VERSIONS", 3):
            check_raises(self, TooMany, fields, branches.undo, "main", 0)
        self.assertEqual(self.told(branches), before)

    def test_200_deeds_and_one_more(self):
        branches = Branches(EMPTY, FIVE, PLAIN, SETS, known_book())
        for number in range(200):
            self.assertEqual(branches.do("main", "has", "a", 1), (number + 1, "no"))
        fields = {"what": "deeds", "many": 201, "most": 200}
        check_raises(self, TooMany, fields, branches.do, "main", "has", "a", 1)
        check_raises(self, NoDeed, {"name": "none"}, branches.do, "main", "none", "a", 1)
        check_raises(self, BadWord, {"number": 0}, branches.do, "main", "has", "z", 1)
        check_raises(self, BadValue, {"number": 0}, branches.do, "main", "has", "a", 0)
        with unittest.mock.patch("treeshed.storing.MOST_VERSIONS", 201):
            check_raises(self, TooMany, fields, branches.do, "main", "has", "a", 1)
        self.assertEqual(len(branches.history_of("main")), 200)
        branches.fork("x", "main")
        self.assertEqual(branches.do("x", "has", "a", 1), (201, "no"))
        self.assertEqual(branches.undo("main", 0), 400)
        self.assertEqual(branches.do("main", "has", "a", 1), (401, "no"))

    def test_500_versions_and_one_more(self):
        branches = Branches(EMPTY, FIVE, PLAIN, SETS, known_book())
        branches.fork("x", "main")
        for number in range(150):
            branches.do("main", "has", "a", 1)
        for number in range(149):
            branches.do("x", "has", "a", 1)
        self.assertEqual(branches.undo("main", 3), 448)
        self.assertEqual(len(branches.kept_versions()), 449)
        fields = {"what": "versions", "many": 449 + 148, "most": 500}
        check_raises(self, TooMany, fields, branches.undo, "main", 0)
        check_raises(self, TooMany, {**fields, "many": 449 + 148}, branches.undo, "x", 148)
        for number in range(51):
            branches.take("main" if number % 2 else "x", "x" if number % 2 else "main")
        fields = {"what": "versions", "many": 501, "most": 500}
        before = self.told(branches)
        check_raises(self, TooMany, fields, branches.take, "main", "x")
        check_raises(self, TooMany, fields, branches.do, "main", "put", "a", 1)
        check_raises(self, BadWord, {"number": 0}, branches.do, "main", "put", "z", 1)
        self.assertEqual(self.told(branches), before)
        # A fork makes no version, and an undo of the only deed none, too.
        self.assertEqual(branches.fork("y", "x"), branches.head_of("x"))
        self.assertEqual(len(branches.kept_versions()), 500)

    def test_a_clash_ahead_of_too_many_versions(self):
        branches = Branches(EMPTY, FIVE, PLAIN, SETS, known_book())
        branches.fork("x", "main")
        branches.do("main", "put", "a", 1)
        branches.do("x", "put", "a", 2)
        with unittest.mock.patch("treeshed.storing.MOST_VERSIONS", 3):
            self.assertEqual(branches.take("main", "x").place, "a")
            self.assertEqual(branches.undo("x", 0), 0)
            check_raises(self, TooMany, {"what": "versions", "many": 4}, branches.take, "main", "x")

    def test_errors_are_shed_errors(self):
        branches = self.branches()
        for told in ((branches.head_of, "y"), (branches.undo, "x", 3), (branches.fork, "x", "x")):
            self.assertRaises(ShedError, *told)

    def test_equal_calls_on_equal_objects(self):
        source = seeded(265)
        for _ in range(20):
            arguments = some_arguments(source)
            two, model = [Branches(*arguments), Branches(*arguments)], Model(*arguments)
            for _ in range(8):
                step = some_step(source, model)
                refused(getattr(model, step[0]), *step[1:])
                told = [refused(getattr(branches, step[0]), *step[1:]) for branches in two]
                self.assertEqual(told[0], told[1])
                if not model.branches:
                    break
            self.assertEqual(self.told(two[0]), self.told(two[1]))
