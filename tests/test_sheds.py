"""Promise 56: sheds, which are branches with holds and a log, and logs that are played again."""

import inspect
import itertools
import unittest
import unittest.mock

from tests.helpers import alike, any_values, check_raises, ranks, seeded
from tests.merges import words_of
from tests.modelled import Model
from tests.test_branches import DEEDS, EMPTY, FIVE, FREE, PLAIN, SETS, check_told, refused, some_arguments, some_steps
from treeshed.books import Book, known_book
from treeshed.branches import Branches
from treeshed.errors import (
    BadDeed, BadLog, BadName, BadWord, BrokenRule, InTheWay, NoBranch, NoDeed, NoLabel, NoNumber, NoPlace, TooMany,
    UsedLabel,
    UsedName)
from treeshed.merging import Clash
from treeshed.plans import known_plan
from treeshed.routines import Routine
from treeshed.sheds import Shed
from treeshed.trees import Tree

LABELS = ("p", "q", "r", "left", "a" * 20)


class ShedModel(Model):
    """A Model with holds, a log, and what rows have changed."""

    def __init__(self, *arguments):
        super().__init__(*arguments)
        self.rows, self.held, self.changed = [], {}, {"main": {}}

    def words(self, name):
        return words_of(self.record.roots[self.branches[name]["head"]].part())

    def places(self, name):
        """The places of a branch's head."""
        found = []

        def spread(node, place):
            found.append(place)
            for letter, child in node.children.items():
                spread(child, place + letter)

        spread(self.record.roots[self.branches[name]["head"]], "")
        return found

    def done(self, step):
        """Does a step, as Model does, and notes what it has changed; what it returns."""
        head, name = step[0], step[1]
        ahead = self.words(name) if head in ("do", "take", "undo") else {}
        told = getattr(self, head)(*step[1:])
        if head == "take" and told is not True:
            return told
        index = len(self.rows)
        self.rows.append(step)
        if head == "fork":
            self.changed[name] = dict(self.changed[step[2]])
        if head == "drop":
            self.held = {label: told for label, told in self.held.items() if told[0] != name}
            del self.changed[name]
        if head in ("do", "take", "undo"):
            behind = self.words(name)
            for word in set(ahead) | set(behind):
                if ahead.get(word) != behind.get(word):
                    self.changed[name][word] = index
            for label, (branch, place, lost) in self.held.items():
                if branch == name and lost is None and place not in self.places(name):
                    self.held[label] = (branch, place, index)
        return told

    def hold(self, label, name, place):
        self.held[label] = (name, place, None)

    def let_go(self, label):
        del self.held[label]


def some_shed_steps(source, model):
    """Steps for a shed, with holds."""
    chance = source.random()
    free = [label for label in LABELS if label not in model.held]
    if free and chance < 0.25:
        name = source.choice(list(model.branches))
        return [("hold", source.choice(free), name, source.choice(model.places(name)))]
    if model.held and chance < 0.3:
        return [("let_go", source.choice(list(model.held)))]
    if model.held and chance < 0.4:
        name, place, _ = source.choice(list(model.held.values()))
        return [("do", name, "strike", place, 1)]
    return some_steps(source, model)


def shown(shed):
    """All that a shed tells."""
    names = shed.all_names()
    return [
        names, shed.stored(), [(shed.head_of(name), shed.history_of(name), shed.changes(name)) for name in names],
        [shed.base_of(*pair) for pair in itertools.combinations(names, 2)],
        [(number, shed.version_tree(number).rows, shed.new_places(number)) for number in shed.kept_versions()],
        shed.holds(), shed.log()]


class SessionTest(unittest.TestCase):
    def test_the_session(self):
        some, start = {"put": DEEDS["put"], "strike": DEEDS["strike"]}, Tree.of("ab", [("ab", 1)])
        shed = Shed(start, some, PLAIN, SETS, known_book())
        told = [shed.hold("top", "main", "a"), shed.fork("x", "main"), shed.do("x", "put", "b", 2)]
        self.assertTrue(alike(told + [shed.do("main", "strike", "ab", 1)], [None, 0, (1, "yes"), (2, "yes")]))
        told = [shed.holds(), shed.take("main", "x"), shed.tree_at("main").word_items(), shed.changes("main")]
        self.assertTrue(alike(told, [{"top": ("main", "a", 3)}, True, (("b", 2),), {"ab": 3, "b": 4}]))
        again = Shed.replayed(start, some, PLAIN, SETS, known_book(), [("hold", "top", "main", "a")])
        self.assertEqual(again.holds(), {"top": ("main", "a", None)})
        told = [shed.drop("x"), len(shed.log())]
        again = Shed.replayed(start, some, PLAIN, SETS, known_book(), shed.log())
        self.assertEqual(told + [again.holds() == shed.holds()], [1, 6, True])


class ShedTest(unittest.TestCase):
    def test_drawn_steps(self):
        source = seeded(281)
        lost, many = 0, {}
        for _ in range(160):
            arguments = some_arguments(source)
            shed, model = Shed(*arguments), ShedModel(*arguments)
            for _ in range(source.randint(1, 24)):
                if not model.branches:
                    break
                for step in some_shed_steps(source, model):
                    told = refused(getattr(shed, step[0]), *step[1:])
                    if step[0] in ("hold", "let_go"):
                        self.assertIsNone(told)
                        self.assertIsNone(getattr(model, step[0])(*step[1:]))
                        model.rows.append(step)
                    else:
                        self.assertTrue(alike(told, refused(model.done, step)), step)
                    many[step[0]] = many.get(step[0], 0) + 1
            self.check(source, shed, model)
            lost += len([label for label, told in model.held.items() if told[2] is not None])
        self.assertGreater(lost, 20)
        self.assertEqual(set(many), {"fork", "do", "take", "undo", "drop", "hold", "let_go"})

    def check(self, source, shed, model):
        """Checks what a shed tells against the model, and that its log can be played again."""
        check_told(self, shed, model)
        self.assertTrue(alike(shed.log(), tuple(model.rows)))
        self.assertTrue(alike(shed.holds(), dict(sorted(model.held.items()))))
        for name, changed in model.changed.items():
            order = sorted(changed, key=lambda word: ranks(word, model.letters))
            self.assertTrue(alike(shed.changes(name), {word: changed[word] for word in order}))
        arguments = [shed.tree, shed.deeds, shed.rule, shed.plan, shed.book]
        again = Shed.replayed(*arguments, source.choice([list, tuple])(shed.log()))
        self.assertEqual(shown(again), shown(shed))
        self.assertIs(again.__class__, Shed)

    def test_a_shed_is_branches(self):
        self.assertTrue(issubclass(Shed, Branches))
        for name in ("fork", "do", "take", "undo", "drop", "hold", "let_go", "holds", "log", "changes", "replayed"):
            self.assertIn(name, vars(Shed))
            self.assertTrue(inspect.getdoc(getattr(Shed, name)))

    def test_holds_are_lost_and_stay_lost(self):
        shed = Shed(Tree.of("ab", [("ab", 1), ("b", 1)]), FIVE, PLAIN, SETS, known_book())
        for label, place in (("root", ""), ("mid", "a"), ("end", "ab"), ("other", "b")):
            shed.hold(label, "main", place)
        shed.do("main", "strike", "ab", 1)
        told = {"end": ("main", "ab", 4), "mid": ("main", "a", 4), "other": ("main", "b", None),
                "root": ("main", "", None)}
        self.assertTrue(alike(shed.holds(), told))
        shed.do("main", "put", "ab", 1)
        self.assertTrue(alike(shed.holds(), told))
        shed.do("main", "strike", "b", 1)
        self.assertTrue(alike(shed.holds(), {**told, "other": ("main", "b", 6)}))
        # Let go and held again, it stands at the place that is there now.
        shed.let_go("end")
        shed.hold("end", "main", "ab")
        self.assertEqual(shed.holds()["end"], ("main", "ab", None))

    def test_holds_lost_by_an_undo_and_a_take(self):
        shed = Shed(EMPTY, FIVE, PLAIN, SETS, known_book())
        shed.fork("x", "main")
        shed.do("main", "put", "a", 1)
        shed.do("main", "put", "b", 1)
        shed.hold("one", "main", "a")
        shed.hold("two", "main", "b")
        # The versions that the undo plays through lack the place b, but the head has it.
        shed.undo("main", 0)
        self.assertEqual(shed.holds(), {"one": ("main", "a", 5), "two": ("main", "b", None)})
        shed.take("x", "main")
        shed.hold("three", "x", "b")
        shed.do("main", "strike", "b", 1)
        self.assertEqual(shed.holds()["three"], ("x", "b", None))
        shed.take("x", "main")
        self.assertEqual(shed.holds(), {"one": ("main", "a", 5), "three": ("x", "b", 9), "two": ("main", "b", 8)})

    def test_an_undo_that_plays_through_other_heads(self):
        # The head has the place ahead of the undo and behind it; the versions between have not.
        shed = Shed(Tree.of("ab", [("aa", 1)]), FIVE, PLAIN, SETS, known_book())
        for deed, word in (("has", "b"), ("strike", "aa"), ("put", "aa")):
            shed.do("main", deed, word, 1)
        shed.hold("end", "main", "aa")
        before = shed.changes("main")
        shed.undo("main", 0)
        self.assertEqual([shed.holds(), shed.changes("main")], [{"end": ("main", "aa", None)}, before])
        self.assertEqual(before, {"aa": 2})

    def test_a_fork_does_not_have_its_sources_holds(self):
        shed = Shed(Tree.of("ab", [("a", 1)]), FIVE, PLAIN, SETS, known_book())
        shed.hold("end", "main", "a")
        shed.fork("x", "main")
        shed.do("x", "strike", "a", 1)
        self.assertEqual(shed.holds(), {"end": ("main", "a", None)})
        shed.drop("main")
        self.assertEqual(shed.holds(), {})
        # Its label can be used again.
        self.assertIsNone(shed.hold("end", "x", ""))

    def test_labels_stand_ascending(self):
        shed = Shed(EMPTY, FIVE, PLAIN, SETS, known_book())
        for label in ("z", "b", "a", "ab"):
            shed.hold(label, "main", "")
        self.assertEqual(list(shed.holds()), ["a", "ab", "b", "z"])
        shed.let_go("b")
        shed.hold("b", "main", "")
        self.assertEqual(list(shed.holds()), ["a", "ab", "b", "z"])

    def test_changes(self):
        shed = Shed(Tree.of("ba", [("a", 1)]), FIVE, PLAIN, SETS, known_book())
        for deed, word, value in (("set", "a", 2), ("put", "ab", 1), ("has", "b", 1), ("put", "b", 1), ("set", "a", 1)):
            shed.do("main", deed, word, value)
        self.assertEqual(list(shed.changes("main").items()), [("b", 3), ("a", 4), ("ab", 1)])
        shed.fork("x", "main")
        shed.do("main", "strike", "b", 1)
        self.assertEqual([shed.changes("main")["b"], shed.changes("x")["b"]], [6, 3])
        # A take changes what the head had otherwise: here b alone, struck on main.
        shed.do("x", "put", "bb", 1)
        shed.take("x", "main")
        self.assertEqual(list(shed.changes("x").items()), [("b", 8), ("bb", 7), ("a", 4), ("ab", 1)])
        shed.undo("main", 5)
        self.assertEqual(shed.changes("main")["b"], 9)

    def test_what_is_returned_is_new(self):
        shed = Shed(EMPTY, FIVE, PLAIN, SETS, known_book())
        shed.hold("end", "main", "")
        shed.do("main", "put", "a", 1)
        for told in (shed.holds, lambda: shed.changes("main"), lambda: shed.deeds):
            before = dict(told())
            self.assertIsNot(told(), told())
            told().clear()
            self.assertEqual(told(), before)
        shed.fork("x", "main")
        shed.do("x", "put", "b", 1)
        self.assertEqual(shed.changes("main"), {"a": 1})


class LogTest(unittest.TestCase):
    def test_refused_steps_and_clashes_are_not_in_it(self):
        shed = Shed(EMPTY, FIVE, PLAIN, SETS, known_book())
        shed.fork("x", "main")
        shed.do("x", "put", "a", 1)
        shed.do("main", "put", "a", 2)
        before = shown(shed)
        self.assertIsInstance(shed.take("x", "main"), Clash)
        for step in (("fork", "x", "main"), ("do", "y", "put", "a", 1), ("do", "x", "putt", "a", 1),
                     ("take", "x", "x"), ("undo", "x", 1), ("drop", "y"), ("hold", "P", "x", "a"),
                     ("hold", "p", "x", "b"), ("let_go", "p")):
            with self.assertRaises(ValueError):
                getattr(shed, step[0])(*step[1:])
        self.assertEqual(shown(shed), before)
        self.assertTrue(alike(shed.log(), (("fork", "x", "main"), ("do", "x", "put", "a", 1), ("do", "main", "put", "a",
            2))))

    def test_all_rows(self):
        shed = Shed(EMPTY, FIVE, PLAIN, SETS, known_book())
        rows = (("fork", "x", "main"), ("do", "x", "put", "a", 1), ("hold", "p", "x", "a"), ("take", "main", "x"),
                ("do", "main", "has", "b", 2), ("undo", "main", 0), ("let_go", "p"), ("drop", "x"))
        for row in rows:
            getattr(shed, row[0])(*row[1:])
        self.assertTrue(alike(shed.log(), rows))
        again = Shed.replayed(EMPTY, FIVE, PLAIN, SETS, known_book(), list(rows))
        self.assertEqual(shown(again), shown(shed))
        self.assertEqual(again.log(), shed.log())

    def bent_rows(self, source, row):
        """Rows that are not of this form, or cannot be done."""
        bent = [list(row), row[:-1], row + (1,), (), (row,), row[0], None, (row[0].upper(),) + row[1:], ("holds",),
                (None,) + row[1:], (1,) + row[1:], ([row[0]],) + row[1:]]
        for at in range(1, len(row)):
            bent += [row[:at] + (value,) + row[at + 1:] for value in (None, "Z", "", 77, [], {"a": 1}, True,
                                                                      (row[at],))]
        return [told for told in bent if not self.may_be_done(row, told)]

    def may_be_done(self, row, told):
        """Whether a row that was bent in one field may well be done."""
        if not isinstance(told, tuple) or len(told) != len(row):
            return False
        # The root is a word and a place, too.
        return row[0] in ("do", "hold") and told == row[:3] + ("",) + row[4:]

    def test_a_bent_row_is_refused_with_its_index(self):
        source = seeded(282)
        many = 0
        for _ in range(36):
            arguments = some_arguments(source)
            shed, model = Shed(*arguments), ShedModel(*arguments)
            for _ in range(source.randint(3, 12)):
                if model.branches:
                    for step in some_shed_steps(source, model):
                        refused(getattr(shed, step[0]), *step[1:])
                        if step[0] in ("hold", "let_go"):
                            getattr(model, step[0])(*step[1:])
                        else:
                            refused(model.done, step)
            log = list(shed.log())
            index = source.randrange(len(log))
            for told in source.sample(self.bent_rows(source, log[index]), 5):
                bent = log[:index] + [told] + log[index + 1:]
                check_raises(self, BadLog, {"index": index}, Shed.replayed, *arguments, bent)
                many += 1
        self.assertGreater(many, 150)

    def test_any_values_as_rows_and_fields(self):
        rows = [("fork", "x", "main"), ("do", "x", "put", "a", 1), ("hold", "p", "x", "a"), ("take", "main", "x"),
                ("undo", "x", 0), ("let_go", "p"), ("drop", "x")]
        arguments = [EMPTY, {"put": DEEDS["put"]}, PLAIN, SETS, known_book()]
        for index, row in enumerate(rows):
            for value in any_values():
                check_raises(self, BadLog, {"index": index}, Shed.replayed, *arguments, rows[:index] + [value])
                for at in range(len(row)):
                    told = row[:at] + (value,) + row[at + 1:]
                    let = {("fork", 1): ("a", "ab", "ba"), ("do", 3): ("", "a", "ab", "ba"), ("do", 4): (1, 2),
                           ("hold", 1): ("a", "ab", "ba"), ("hold", 3): ("", "a"), ("undo", 2): (0,)}
                    if isinstance(value, bool) or value not in let.get((row[0], at), ()):
                        check_raises(self, BadLog, {"index": index}, Shed.replayed, *arguments, rows[:index] + [told])
        for log in ([], ()):
            self.assertEqual(Shed.replayed(*arguments, log).log(), ())

    def test_rows_that_are_wrong_where_they_stand(self):
        arguments = [EMPTY, FIVE, PLAIN, SETS, known_book()]
        for index, log in (
            (1, [("fork", "x", "main"), ("fork", "x", "main")]), (0, [("drop", "x"), ("fork", "x", "main")]),
            (3, [("fork", "x", "main"), ("do", "x", "put", "a", 1), ("do", "main", "put", "a", 2),
                 ("take", "x", "main"),
                 ("drop", "z")]),
            (2, [("do", "main", "put", "a", 1), ("do", "main", "strike", "a", 1), ("undo", "main", 0)]),
            (1, [("drop", "main"), ("do", "main", "has", "a", 1)]),
        ):
            check_raises(self, BadLog, {"index": index}, Shed.replayed, *arguments, log)
        with unittest.mock.patch("treeshed.storing.MOST_VERSIONS", 2):
            log = [("do", "main", "has", "a", 1)] * 2
            check_raises(self, BadLog, {"index": 1}, Shed.replayed, *arguments, log)

    def test_errors_of_sheds_come_first(self):
        broken, bad = Tree("ab", [("", None, True)]), Routine([], [("flag", True)], [])
        rest = [PLAIN, SETS, known_book()]
        for told, arguments in (
            ((BadName, {"name": "A"}), [broken, {"x": bad, "A": bad}]),
            ((BadDeed, {"name": "x"}), [broken, {"x": bad}]),
            ((BrokenRule, {}), [broken, FIVE]),
        ):
            check_raises(self, *told, Shed, *arguments, *rest)
            check_raises(self, *told, Shed.replayed, *arguments, *rest, [None])

    def test_arguments_are_neither_changed_nor_kept(self):
        deeds, log = dict(FIVE), [("do", "main", "put", "a", 1)]
        shed = Shed.replayed(EMPTY, deeds, PLAIN, SETS, known_book(), log)
        deeds.clear()
        log.append(("drop", "main"))
        self.assertEqual([shed.do("main", "put", "b", 1), len(shed.log()), len(log)], [(2, "yes"), 2, 2])
        self.assertEqual([shed.tree, shed.rule, shed.plan], [EMPTY, PLAIN, SETS])


class ErrorTest(unittest.TestCase):
    def shed(self):
        """A shed with the branches main and x and a hold."""
        shed = Shed(Tree.of("ab", [("a", 1)]), FIVE, PLAIN, SETS, known_book())
        shed.fork("x", "main")
        shed.hold("end", "x", "a")
        return shed

    def test_errors_of_holds_in_their_order(self):
        shed = self.shed()
        for label in ["", "A", "p1", "a b", "a" * 21, "\u00e9"] + any_values():
            if not isinstance(label, str) or label not in ("a", "ab", "ba"):
                check_raises(self, BadName, {"name": label}, shed.hold, label, None, None)
        check_raises(self, UsedLabel, {"label": "end"}, shed.hold, "end", None, None)
        for name in ["y", "", "Main", ("x",)] + any_values():
            check_raises(self, NoBranch, {"name": name}, shed.hold, "new", name, None)
        for place in ["b", "aa", "a" * 201, ("a",)] + any_values():
            if not isinstance(place, str) or place not in ("", "a"):
                check_raises(self, NoPlace, {"place": place}, shed.hold, "new", "x", place)
        self.assertIsNone(shed.hold("a" * 20, "x", ""))

    def test_a_lost_hold_keeps_its_label(self):
        shed = self.shed()
        shed.do("x", "strike", "a", 1)
        self.assertEqual(shed.holds(), {"end": ("x", "a", 2)})
        check_raises(self, UsedLabel, {"label": "end"}, shed.hold, "end", "main", "a")
        self.assertIsNone(shed.let_go("end"))
        self.assertIsNone(shed.hold("end", "main", "a"))

    def test_no_label(self):
        shed = self.shed()
        for label in ["x", "", "End", b"end", ("end",), ["end"]] + any_values():
            check_raises(self, NoLabel, {"label": label}, shed.let_go, label)
        shed.let_go("end")
        check_raises(self, NoLabel, {"label": "end"}, shed.let_go, "end")

    def test_errors_of_branches(self):
        shed = self.shed()
        for name in ["y", "", "Main", ("x",)] + any_values():
            for told in ((shed.changes, name), (shed.do, name, None, None, None), (shed.take, name, None),
                         (shed.take, "x", name), (shed.undo, name, None), (shed.drop, name), (shed.fork, None, name)):
                check_raises(self, NoBranch, {"name": name}, *told)
        check_raises(self, NoBranch, {"name": "x"}, shed.take, "x", "x")
        check_raises(self, BadName, {"name": "A"}, shed.fork, "A", "main")
        check_raises(self, UsedName, {"name": "x"}, shed.fork, "x", "main")
        check_raises(self, NoDeed, {"name": "none"}, shed.do, "x", "none", "a", 1)
        check_raises(self, BadWord, {"number": 0}, shed.do, "x", "put", "z", 1)
        check_raises(self, NoNumber, {"number": 0}, shed.undo, "x", 0)
        shed.do("x", "put", "b", 1)
        shed.do("x", "strike", "b", 1)
        check_raises(self, InTheWay, {"number": 1}, shed.undo, "x", 0)
        with unittest.mock.patch("treeshed.storing.MOST_VERSIONS", 3):
            check_raises(self, TooMany, {"what": "versions", "many": 4, "most": 3}, shed.do, "x", "has", "b", 1)
        self.assertEqual(len(shed.log()), 4)

    def test_a_take_that_breaks_the_rule_is_not_in_the_log(self):
        shed = Shed(Tree.of("ab", [("a", 1), ("aa", 1), ("ab", 1)]), FIVE, PLAIN, known_plan("back"), Book({}))
        shed.fork("x", "main")
        for name, word in (("x", "aa"), ("main", "ab")):
            shed.do(name, "strike", word, 1)
            shed.do(name, "strike", "a", 1)
        shed.hold("end", "x", "ab")
        before = shown(shed)
        check_raises(self, BrokenRule, {}, shed.take, "x", "main")
        self.assertEqual(shown(shed), before)

    def test_odd_routines_in_free(self):
        shed = Shed(EMPTY, {"odd": Routine.read("turn:\n    flag = true")}, FREE, SETS, Book({}))
        self.assertEqual([shed.do("main", "odd", "a", 1), shed.changes("main")], [(1, None), {}])
