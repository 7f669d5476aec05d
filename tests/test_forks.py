"""Promises 25 to 29 and 52: two calls done side by side and merged."""

import itertools
import unittest
import unittest.mock

from tests import forked, oracle
from tests.drawing import rule_of_few, some_pair, some_routine, some_tree
from tests.helpers import alike, any_values, check_raises, long_rows, seconds_of, seeded, some_letters, tupled
from tests.merges import some_exact_rule, some_plan
from tests.test_books import WIDE
from tests.test_judging import CUTS, cells_over
from tests.test_tables import OUTCOMES, parts_of
from treeshed.books import known_deeds
from treeshed.errors import BadRelation, BadValues, BadWord, TooMany
from treeshed.forks import Forks, fork_longer, fork_on, fork_question, fork_whole, is_forks, judge_forks
from treeshed.plans import Plan, known_plan, with_flags
from treeshed.questions import Question, relation_of, stories_of
from treeshed.routines import Routine
from treeshed.rules import Rule, all_trees, known_rule
from treeshed.tables import is_table
from treeshed.trees import Tree

PLAIN, FREE, BARE = known_rule("plain"), known_rule("free"), known_rule("bare")
SETS, CAREFUL, LATE, BACK = [known_plan(name) for name in ("sets", "careful", "late", "back")]
RELATIONS = ("same", "within", "around", "apart")
DEEDS = known_deeds()
OUTCOME_NAMES = ("both", "clash", "first", "neither", "second")


def some_two(source):
    """Two routines: known deeds, or odd ones."""
    return [source.choice(list(DEEDS.values())) if source.random() < 0.4 else some_routine(source) for _ in range(2)]


def some_fork(source):
    """A fork question of any values, aspects and where, which count for nothing."""
    first, second = some_two(source)
    calls = [(first, 0, source.randint(1, 3)), (second, 1, source.randint(1, 3))]
    where = source.choice([None, {0: "yes"}, {1: "none", 0: "at"}])
    return Question(calls, [0, 1], [1, 0], source.sample(["answers", "trees", "rule"], source.randint(0, 2)), where)


def folded_up(plan, question, rule, tree, pair):
    """The root's cell and fork tables below, folded from the ends of both ways by fork_longer."""
    def longer(asked, told_rule, words, cell, below):
        return fork_longer(plan, asked, told_rule, words, cell, below)
    return oracle.folded(longer, question, rule, tree, pair)


def told_table(source, question, words, there):
    """Any fork table of the form, whatever it tells."""
    rows = [row for _, row in stories_of(question, words, there)]
    entries = []
    for row in rows:
        calls = [number for number in (0, 1) if row + (number,) in rows]
        outcomes = tuple((number, source.choice(OUTCOMES)) for number in calls)
        entries.append((
            source.randint(0, len(rows) - 1), source.randint(-1, len(rows) - 1), source.randint(-1, len(rows) - 1),
            source.random() < 0.5, source.random() < 0.5, outcomes))
    many = (3 if 0 in words else 2) * (3 if 1 in words else 2)
    told = [("none",), ("other",)] + [("as", source.randint(0, len(rows) - 1)) for _ in range(6)]
    told += [("clash",)] * (source.random() < 0.2)
    return (words, there, tuple(entries)), tuple(source.choice(told) for _ in range(many))


def some_below(source, question, words):
    """A tuple of any fork tables below a place that these words lead to."""
    if len(words) == 1:
        split = source.choice([(), (words,), (words,)])
    else:
        split = source.choice([(), (words,), (words,), ((0,),), ((1,),), ((0,), (1,)), ((0,), (1,))])
    return tuple(told_table(source, question, told, source.random() < 0.6) for told in split)


class SessionTest(unittest.TestCase):
    def test_the_session(self):
        tree = Tree.of("ab", [("a", 2)])
        question = fork_question(DEEDS["set"], DEEDS["strike"], True)
        told = [fork_on(SETS, question, tree, ("a", "a")), fork_on(LATE, question, tree, ("a", "a")),
                fork_on(SETS, question, tree, ("b", "a"))]
        self.assertEqual(told, [("yes", "yes", "clash"), ("yes", "yes", "first"), ("yes", "yes", "both")])
        question = fork_question(DEEDS["put"], DEEDS["strike"], True)
        none, zero, one = ("none",), ("as", 0), ("as", 1)
        told = fork_longer(SETS, question, PLAIN, (0, 1), None, ())[1]
        self.assertTrue(alike(told, (none, zero, zero, zero, none, none, one, one, one)))
        self.assertTrue(alike(fork_whole(SETS, question, PLAIN, (None, False, 0), ()), ("yes", "no", "second")))
        paper = judge_forks(SETS, DEEDS["put"], DEEDS["strike"], PLAIN, "same", True, (1, 2))
        told = [[(row[:3], row[3].size) for row in paper.rows], is_forks(paper)]
        self.assertEqual(told, [[(("no", "yes", "first"), 1), (("yes", "no", "second"), 1)], True])


class ForkOnTest(unittest.TestCase):
    def test_fork_questions(self):
        for first, second, same in itertools.product(list(DEEDS.values())[:3], list(DEEDS.values())[2:], (True, False)):
            question = fork_question(first, second, same)
            self.assertEqual(question, Question([(first, 0, 1), (second, 1, 1 if same else 2)], [0, 1], [1, 0], []))
            self.assertTrue(alike([question.one, question.other, question.aspects, question.where],
                                  [(0, 1), (1, 0), (), ()]))

    def test_drawn_trees(self):
        source = seeded(231)
        found = {}
        for _ in range(2500):
            plan, question = some_plan(source), some_fork(source)
            tree = some_tree(source, some_letters(source, source.randint(2, 3)), source.randint(1, 8))
            pair = some_pair(source, tree.letters)
            told = fork_on(plan, question, tree, pair)
            self.assertTrue(alike(told, forked.triple_on(plan, question, tree, pair)))
            found[told[2]] = found.get(told[2], 0) + 1
        self.assertEqual(tuple(sorted(found)), OUTCOME_NAMES)
        self.assertGreater(min(found.values()), 20)

    def test_lists_of_two_words(self):
        question = fork_question(DEEDS["set"], DEEDS["strike"], True)
        tree = Tree.of("ab", [("a", 2)])
        self.assertEqual(fork_on(SETS, question, tree, ["b", "a"]), ("yes", "yes", "both"))

    def test_wrong_words(self):
        question = fork_question(DEEDS["set"], DEEDS["strike"], True)
        tree = Tree.of("ab", [("a", 2)])
        for value in ["c", "A", "a" * 201, ("a",)] + any_values():
            if not isinstance(value, str) or value.strip("ab") or len(value) > 200:
                for index, pair in ((0, (value, "a")), (1, ("a", value)), (0, (value, value)), (0, [value, None])):
                    check_raises(self, BadWord, {"number": index}, fork_on, SETS, question, tree, pair)

    def check_too_many(self, many, first, second, tree, pair):
        """Checks that a fork with any of the known plans has too many places, and how many."""
        question, fields = fork_question(first, second, True), {"what": "places", "many": many, "most": 2000}
        for plan in (SETS, CAREFUL, LATE, BACK):
            check_raises(self, TooMany, fields, fork_on, plan, question, tree, pair)

    def wide_tree(self, many, flag=False):
        """A tree of so many places over letters of which k and l stand nowhere."""
        return Tree("abcdefghijkl", [("", None, flag)] + long_rows("abcdefghij")[1:many])

    def test_too_many_places_behind_a_call(self):
        put, has, tree = DEEDS["put"], DEEDS["has"], self.wide_tree(2000)
        self.assertEqual(tree.size, 2000)
        self.check_too_many(2001, put, put, tree, ("k", "ll"))
        self.check_too_many(2002, put, put, tree, ("kk", "l"))
        self.check_too_many(2002, put, has, tree, ("kk", "l"))
        self.check_too_many(2001, has, put, tree, ("kk", "l"))
        self.assertEqual(fork_on(SETS, fork_question(has, has, True), tree, ("k", "l")), ("no", "no", "both"))

    def test_too_many_places_behind_both(self):
        # One makes two places and flags the root; the other one makes two, but one if it finds that flag.
        flags = Routine.read("down:\n    if at root:\n        flag = true\n    if not next:\n        make")
        finds = Routine.read("down:\n    if not next:\n        make\n    if at root and flag:\n        stop")
        tree = self.wide_tree(1998)
        self.check_too_many(2001, flags, finds, tree, ("kk", "ll"))
        self.check_too_many(2002, finds, flags, tree, ("ll", "kk"))
        tree = self.wide_tree(1997)
        self.check_too_many(2001, flags, finds, tree, ("kk", "ll"))
        self.check_too_many(2001, finds, flags, tree, ("ll", "kk"))
        told = fork_on(SETS, fork_question(flags, finds, True), self.wide_tree(1996), ("kk", "ll"))
        self.assertEqual(told, ("none", "none", "second"))

    def test_too_many_places_in_the_merge_alone(self):
        # Each makes a place and takes the flag off the root, without which the other one makes none.
        both = Routine.read("down:\n    if flag and not next:\n        make\n    flag = false")
        self.check_too_many(2001, both, both, self.wide_tree(1999, True), ("k", "l"))
        question = fork_question(both, both, True)
        told = fork_on(SETS, question, self.wide_tree(1998, True), ("k", "l"))
        self.assertEqual(told, ("none", "none", "neither"))
        # A clash has no places.
        mark = Routine.read("down:\n    if not marked:\n        if not next:\n            make\n    mark")
        for many in (1998, 1999):
            told = fork_on(SETS, fork_question(mark, mark, False), self.wide_tree(many), ("k", "l"))
            self.assertEqual(told, ("none", "none", "clash"))
        check_raises(self, TooMany, {"many": 2001}, fork_on, LATE, fork_question(mark, mark, False),
                     self.wide_tree(1999), ("k", "l"))


class ForkTableTest(unittest.TestCase):
    def test_folding_up_to_the_root_tells_what_fork_on_tells(self):
        source = seeded(232)
        found = {}
        for _ in range(1500):
            plan, question = some_plan(source), some_fork(source)
            tree = some_tree(source, some_letters(source, source.randint(2, 3)), source.randint(1, 9))
            pair = some_pair(source, tree.letters)
            cell, below = folded_up(plan, question, FREE, tree, pair)
            told = fork_whole(plan, question, FREE, cell, below)
            self.assertTrue(alike(told, fork_on(plan, question, tree, pair)))
            found[told[2]] = True
        self.assertEqual(tuple(sorted(found)), OUTCOME_NAMES)

    def test_fork_tables_of_drawn_trees_tell_what_merges_make(self):
        source = seeded(233)
        found = {}
        for _ in range(600):
            plan, question = some_plan(source), some_fork(source)
            tree = some_tree(source, some_letters(source, source.randint(2, 3)), source.randint(1, 8))
            pair, rule = some_pair(source, tree.letters), rule_of_few(source)
            for top in parts_of(tree, pair):
                cell, below = oracle.folded(
                    lambda asked, told, *rest: fork_longer(plan, asked, told, *rest), question, rule, tree, pair, top)
                words = tuple(which for which in (0, 1) if pair[which].startswith(top))
                table, merges = fork_longer(plan, question, rule, words, cell, below)
                expected = oracle.table_at(question, rule, oracle.rows_of_tree(tree), pair, top)
                self.assertTrue(alike(table, expected))
                self.assertTrue(alike(merges, forked.merges_at(plan, question, tree, pair, top)))
                self.assertTrue(is_table(question, table))
                for merge in merges:
                    found[merge] = True
        self.assertLessEqual({("clash",), ("none",), ("other",), ("as", 0), ("as", 3)}, set(found))

    def test_any_fork_tables_below(self):
        source = seeded(234)
        found = {}
        for _ in range(2500):
            plan, question = some_plan(source), some_fork(source)
            words = source.choice([(0,), (1,), (0, 1), (0, 1)])
            below = some_below(source, question, words)
            cell = (source.choice([None, 1, 2]), source.random() < 0.4, source.choice([0, 0, 1, 2]))
            if source.random() < 0.3 and not any(table[1] for table, _ in below):
                cell = None
            table, merges = fork_longer(plan, question, FREE, words, cell, source.choice([below, list(below)]))
            told = forked.Forked(plan, question, FREE, words, cell, below, False)
            self.assertTrue(alike(table, told.spelled.table()))
            self.assertTrue(alike(merges, told.merges()), (cell, below))
            for merge in merges:
                found[merge[0]] = True
            if cell is not None and words == (0, 1):
                told = forked.Forked(plan, question, FREE, words, cell, below, True)
                self.assertTrue(alike(fork_whole(plan, question, FREE, cell, below), told.triple()))
                found[told.triple()[2]] = True
        self.assertEqual(set(found), {"as", "none", *OUTCOME_NAMES, "other"})

    def test_long_ways_of_missing_places(self):
        question = fork_question(DEEDS["put"], DEEDS["strike"], True)
        tree = Tree("ab", [("", None, False)])
        for one, other in ((200, 200), (150, 200), (200, 3)):
            below = ()
            for length in range(max(one, other), 0, -1):
                words = tuple(which for which in (0, 1) if (one, other)[which] >= length)
                below = (fork_longer(SETS, question, PLAIN, words, None, below),)
            told = fork_whole(SETS, question, PLAIN, (None, False, 0), below)
            self.assertEqual(told, fork_on(SETS, question, tree, ("a" * one, "a" * other)))

    def test_states_that_no_call_leaves_together(self):
        # Words apart at a missing place: both sides make the top, and each goes its own way.
        question = fork_question(DEEDS["put"], DEEDS["put"], True)
        low = [fork_longer(SETS, question, PLAIN, (number,), None, ()) for number in (0, 1)]
        self.assertEqual([len(told[1]) for told in low], [6, 6])
        table, merges = fork_longer(SETS, question, PLAIN, (0, 1), None, tuple(low))
        self.assertEqual(len(merges), 9)
        self.assertEqual(merges[8], ("as", 3))
        self.assertEqual(merges, forked.merges_at(SETS, question, Tree("ab", [("", None, False)]), ("ba", "bb"), "b"))


def all_closed(plan, question, rule, relation, values):
    """The three sets of fork tables, and the triples at the roots, by fork_longer and fork_whole alone."""
    def closed_over(words, bottoms):
        found, waiting = {}, list(bottoms)
        while waiting:
            below = waiting.pop()
            for cell in cells_over(rule, values, [table for table, _ in below], False):
                told = fork_longer(plan, question, rule, words, cell, below)
                if told not in found:
                    found[told] = True
                    waiting.append((told,))
        return sorted(found)
    zero = closed_over((0,), [()]) if relation in ("around", "apart") else []
    one = closed_over((1,), [()]) if relation in ("within", "apart") else []
    bottoms = {"same": [()], "within": [(told,) for told in one], "around": [(told,) for told in zero],
               "apart": list(itertools.product(zero, one))}[relation]
    both = closed_over((0, 1), bottoms)
    triples = {
        fork_whole(plan, question, rule, cell, below) for below in bottoms + [(told,) for told in both]
        for cell in cells_over(rule, values, [table for table, _ in below], True)}
    return (tuple(zero), tuple(one), tuple(both)), triples


class JudgeForksTest(unittest.TestCase):
    WORDS = ["", "a", "b", "aa", "ab", "ba", "aab"]

    def check(self, paper, plan, first, second, rule, relation, same, values):
        """Checks a paper against all small trees."""
        self.assertEqual([paper.plan, paper.first, paper.second, paper.rule], [plan, first, second, rule])
        self.assertTrue(alike([paper.relation, paper.alike, paper.value_list], [relation, same, tuple(values)]))
        question = fork_question(first, second, same)
        self.assertTrue(is_forks(paper))
        size_of = {}
        for row in paper.rows:
            self.assertIs(row.__class__, tuple)
            self.assertEqual(fork_on(plan, question, row[3], row[4]), row[:3])
            self.assertTrue(rule.keeps(row[3]) and relation_of(row[4]) == relation)
            self.assertLessEqual({told[1] for told in row[3].rows}, {None} | set(values))
            size_of[row[:3]] = row[3].size
        self.assertEqual([row[:3] for row in paper.rows], sorted(size_of))
        pairs = [pair for pair in itertools.product(self.WORDS, repeat=2) if relation_of(pair) == relation]
        for size in (1, 2):
            for tree in all_trees(rule, "ab", size, values):
                for pair in pairs:
                    self.assertLessEqual(size_of[fork_on(plan, question, tree, pair)], size)

    def test_drawn_routines_plans_and_rules(self):
        source = seeded(235)
        for _ in range(45):
            plan, (first, second), rule = some_plan(source), some_two(source), rule_of_few(source)
            relation, same, values = source.choice(RELATIONS), source.random() < 0.5, source.choice([[1], [1, 2], (2,)])
            try:
                paper = judge_forks(plan, first, second, rule, relation, same, values)
            except TooMany:
                continue
            self.check(paper, plan, first, second, rule, relation, same, values)

    def test_drawn_trees_of_known_deeds(self):
        source = seeded(236)
        for _ in range(30):
            first, second = [source.choice(list(DEEDS.values())) for _ in range(2)]
            plan, same = source.choice([SETS, CAREFUL, LATE, BACK, some_plan(source)]), source.random() < 0.5
            relation = source.choice(RELATIONS)
            paper = judge_forks(plan, first, second, PLAIN, relation, same, (1, 2, 3))
            size_of = {row[:3]: row[3].size for row in paper.rows}
            self.assertEqual(len(size_of), len(paper.rows))
            for _ in range(40):
                words = ["".join(source.choice("ab") for _ in range(source.randint(0, 3))) for _ in range(4)]
                tree = PLAIN.tree_of("ab", [(word, source.randint(1, 3)) for word in dict.fromkeys(words)])
                pair = some_pair(source, "ab")
                if relation_of(pair) == relation:
                    told = fork_on(plan, fork_question(first, second, same), tree, pair)
                    self.assertLessEqual(size_of[told], tree.size)

    def test_tables_and_triples_by_fork_longer_and_fork_whole_alone(self):
        source = seeded(237)
        for number in range(16):
            plan, (first, second) = some_plan(source), some_two(source)
            rule = PLAIN if number < 4 else rule_of_few(source)
            relation, same, values = RELATIONS[number % 4], source.random() < 0.5, [1, 2] if number < 8 else [3]
            try:
                paper = judge_forks(plan, first, second, rule, relation, same, values)
            except TooMany:
                continue
            tables, triples = all_closed(plan, fork_question(first, second, same), rule, relation, values)
            self.assertTrue(alike(paper.tables, tables))
            self.assertEqual([row[:3] for row in paper.rows], sorted(triples))

    def test_unlike_words_come_to_both(self):
        source = seeded(238)
        for first, second in itertools.product(("put", "set", "strike"), repeat=2):
            for relation in ("within", "around", "apart"):
                plan = source.choice([SETS, LATE, Plan("bare", "clash", "one", True), with_flags(SETS, PLAIN)])
                paper = judge_forks(plan, DEEDS[first], DEEDS[second], PLAIN, relation, source.random() < 0.5,
                                    (1, 2, 3))
                self.assertEqual({row[2] for row in paper.rows}, {"both"})
                self.assertEqual(len(paper.rows), 4)

    def test_exact_rules_are_not_all_alike(self):
        # [29] is said of plain: in joined a put makes places without the flag that the rule wants.
        paper = judge_forks(with_flags(SETS, known_rule("joined")), DEEDS["put"], DEEDS["put"], known_rule("joined"),
                            "within", True, (1, 2, 3))
        self.assertNotEqual({row[2] for row in paper.rows}, {"both"})
        rule = some_exact_rule(seeded(239))
        paper = judge_forks(with_flags(SETS, rule), DEEDS["has"], DEEDS["get"], rule, "apart", True, (1, 2))
        self.assertEqual({row[2] for row in paper.rows}, {"both"})

    def test_forks_of_the_known_deeds_are_soon_judged(self):
        for first, second in (("set", "strike"), ("longest", "strike"), ("set", "set"), ("begins", "put")):
            for relation in RELATIONS:
                arguments = [SETS, DEEDS[first], DEEDS[second], PLAIN, relation, False, (1, 2, 3)]
                self.assertLess(seconds_of(judge_forks, *arguments), 3)
                self.assertLess(seconds_of(is_forks, judge_forks(*arguments)), 3)

    def test_a_rule_without_trees(self):
        for rule in (Rule([], []), Rule([(True, False, 1)], [(True, False, 1)]), Rule([], [(True, False, 0)])):
            for relation in RELATIONS:
                paper = judge_forks(SETS, DEEDS["put"], DEEDS["set"], rule, relation, True, [1])
                self.assertTrue(alike(paper.rows, ()))
                self.assertTrue(is_forks(paper))

    def test_wrong_relations_and_values(self):
        two = [SETS, DEEDS["put"], DEEDS["has"], PLAIN]
        for value in ["", "Same", "none", None, 0, ("same",)] + any_values():
            check_raises(self, BadRelation, {"relation": value}, judge_forks, *two, value, True, [])
        for index, values in ((0, []), (0, [0]), (1, [1, 1]), (1, (2, 1)), (2, (1, 2, True)), (0, [None]),
                              (1, [9, 10])):
            check_raises(self, BadValues, {"index": index}, judge_forks, *two, "same", True, values)
        for value in any_values():
            if not isinstance(value, int) or isinstance(value, bool) or not 2 <= value <= 9:
                check_raises(self, BadValues, {"index": 1}, judge_forks, *two, "same", True, [1, value])

    def test_just_as_many_as_there_may_be(self):
        for relation, words in (("around", 0), ("within", 1), ("same", 2), ("apart", 0), ("apart", 1), ("apart", 2)):
            arguments = [SETS, DEEDS["put"], DEEDS["strike"], PLAIN, relation, True, (1, 2)]
            paper = judge_forks(*arguments)
            many = max(len(paper.tables[number]) for number in range(words + 1))
            with unittest.mock.patch("treeshed.closing.MOST_TABLES", max(map(len, paper.tables))):
                judge_forks(*arguments)
            with unittest.mock.patch("treeshed.closing.MOST_TABLES", many - 1):
                fields = {"what": "tables", "many": many, "most": many - 1}
                check_raises(self, TooMany, fields, judge_forks, *arguments)
        joints = len(paper.tables[0]) * len(paper.tables[1])
        with unittest.mock.patch("treeshed.closing.MOST_JOINTS", joints):
            judge_forks(*arguments)
        with unittest.mock.patch("treeshed.closing.MOST_JOINTS", joints - 1):
            fields = {"what": "joints", "many": joints, "most": joints - 1}
            check_raises(self, TooMany, fields, judge_forks, *arguments)

    def test_very_many_tables_and_joints(self):
        fields = {"what": "tables", "many": 1001, "most": 1000}
        check_raises(self, TooMany, fields, judge_forks, SETS, WIDE, WIDE, FREE, "same", False, (1, 2, 3, 4))
        check_raises(self, TooMany, fields, judge_forks, SETS, WIDE, CUTS, FREE, "around", False, (1, 2, 3))
        fields = {"what": "joints", "many": 2553, "most": 2000}
        check_raises(self, TooMany, fields, judge_forks, SETS, CUTS, CUTS, FREE, "apart", False,
                     list(range(1, 10)))

    def test_equal_calls_are_equal(self):
        source = seeded(240)
        for _ in range(8):
            plan, (first, second), relation = some_plan(source), some_two(source), source.choice(RELATIONS)
            papers = []
            for values in ([1, 2], (1, 2)):
                try:
                    papers.append(judge_forks(plan, first, second, BARE, relation, True, values))
                except TooMany:
                    break
            if papers:
                self.assertEqual(papers[0].rows, papers[1].rows)
                self.assertTrue(alike(papers[0].tables, papers[1].tables))


class IsForksTest(unittest.TestCase):
    def fields(self, relation="apart", same=True, values=(1, 2), deeds=("put", "strike")):
        """The fields of a right paper."""
        paper = judge_forks(SETS, DEEDS[deeds[0]], DEEDS[deeds[1]], PLAIN, relation, same, values)
        return [paper.plan, paper.first, paper.second, paper.rule, paper.relation, paper.alike, paper.value_list,
                paper.rows, paper.tables]

    def bent(self, fields, number, value):
        """Whether is_forks says True with another value in a field."""
        return is_forks(Forks(*fields[:number], value, *fields[number + 1:]))

    def test_tables_in_any_order_and_twice(self):
        for relation in RELATIONS:
            fields = self.fields(relation)
            tables = [list(part[::-1]) + list(part[:2]) for part in fields[8]]
            self.assertIs(self.bent(fields, 8, tables), True)

    def test_other_rows_that_are_right(self):
        fields, found = self.fields("apart"), 0
        for at, row in enumerate(fields[7]):
            more = Tree("dabc", [("", row[3].rows[0][1], False)] + [
                told for told in row[3].rows[1:]] + ([("d", 1, False)] if not row[3].has("d") else []))
            if fork_on(SETS, fork_question(*fields[1:3], True), more, row[4]) == row[:3]:
                told = fields[7][:at] + (row[:3] + (more, list(row[4])),) + fields[7][at + 1:]
                self.assertIs(self.bent(fields, 7, told), True)
                # A triple stands once, also with another tree.
                told = fields[7][:at + 1] + (row[:3] + (more, row[4]),) + fields[7][at + 1:]
                self.assertIs(self.bent(fields, 7, told), False)
                found += 1
        self.assertGreater(found, 0)

    def test_rows_bent(self):
        fields = self.fields("apart")
        rows = fields[7]
        self.assertEqual(len(rows), 4)
        self.assertIs(self.bent(fields, 7, rows[::-1]), False)
        self.assertIs(self.bent(fields, 7, rows + rows[-1:]), False)
        self.assertIs(self.bent(fields, 7, rows[:1] + rows), False)
        for at, (kind, later, outcome, tree, pair) in enumerate(rows):
            self.assertIs(self.bent(fields, 7, rows[:at] + rows[at + 1:]), False)
            wrong = [
                ("is", later, outcome, tree, pair), (kind, "none", outcome, tree, pair),
                (kind, later, "first", tree, pair),
                (kind, later, outcome, tree, ("a", "a")),
                (kind, later, outcome, tree, ("a", "aa")), (kind, later, outcome, tree, (pair[0], "z")),
                (kind, later, outcome, tree, (pair[0], "b" * 201)), (kind, later, outcome, tree, pair + ("a",)),
                (kind, later, outcome, tree.rows, pair), (kind, later, outcome, tree),
                (kind, later, outcome, tree, pair, 1),
                (kind, later, outcome, Tree("abcd", tree.rows + (("dd", None, False), ("d", 1, False))), pair),
                (kind, later, outcome, Tree("abcd", tree.rows + (("d", 3, False),)), pair)]
            for row in wrong:
                self.assertIs(self.bent(fields, 7, rows[:at] + (row,) + rows[at + 1:]), False, row)
            for number in range(5):
                for value in any_values():
                    row = rows[at][:number] + (value,) + rows[at][number + 1:]
                    if number < 3 or not isinstance(value, Tree) and tupled(value) != ("a", "b"):
                        self.assertIs(self.bent(fields, 7, rows[:at] + (row,) + rows[at + 1:]), False, row)
        for value in any_values():
            self.assertIs(self.bent(fields, 7, rows + (value,)), False)

    def test_a_triple_too_many(self):
        # It comes up with a value that is not in the list, or not in this relation.
        fields = self.fields("same", True, (1,), ("get", "has"))
        more = judge_forks(CAREFUL, DEEDS["get"], DEEDS["has"], PLAIN, "same", True, (1, 2)).rows
        self.assertIs(self.bent(fields, 7, more), True)
        fields = self.fields("same", False, (2,), ("set", "set"))
        more = judge_forks(SETS, DEEDS["set"], DEEDS["set"], PLAIN, "same", False, (1, 2)).rows
        self.assertGreater(len(more), len(fields[7]))
        self.assertIs(self.bent(fields, 7, more), False)

    def test_an_error_is_no_proof(self):
        letters = "abcdefghijk"
        tree = Tree(letters, [("", 1, False)] + [(row[0], 1, False) for row in long_rows(letters)[1:]])
        fields = self.fields("same", True, (1, 2), ("put", "has"))
        told = [row[:3] for row in fields[7]]
        at = told.index(("yes", "no", "both"))
        row = told[at] + (tree, ("k", "k"))
        self.assertIs(self.bent(fields, 7, fields[7][:at] + (row,) + fields[7][at + 1:]), False)
        row = told[at] + (Tree(letters, tree.rows[:-1]), ("k", "k"))
        self.assertIs(self.bent(fields, 7, fields[7][:at] + (row,) + fields[7][at + 1:]), True)

    def test_a_table_left_out(self):
        for relation in RELATIONS:
            fields = self.fields(relation)
            for number, part in enumerate(fields[8]):
                for at in range(len(part)):
                    tables = [list(told) for told in fields[8]]
                    del tables[number][at]
                    self.assertIs(self.bent(fields, 8, tables), False)
            self.assertIs(self.bent(fields, 8, ((), (), ())), False)

    def test_a_table_bent(self):
        source = seeded(241)
        for relation in ("within", "around", "apart"):
            fields = self.fields(relation)
            for number, part in enumerate(fields[8]):
                for at, ((words, there, entries), merges) in enumerate(part):
                    entry = list(entries[0])
                    entry[source.choice([3, 4])] ^= True
                    spot = source.randrange(len(merges))
                    other = source.choice([told for told in (("none",), ("as", 0), ("as", 1), ("other",))
                                           if told != merges[spot]])
                    for told in (
                        ((words, there, (tuple(entry),) + entries[1:]), merges), ((words, not there, entries), merges),
                        ((words, there, entries), merges[:spot] + (other,) + merges[spot + 1:]),
                    ):
                        tables = [list(part) for part in fields[8]]
                        tables[number][at] = told
                        self.assertIs(self.bent(fields, 8, tables), False, told)

    def test_wrong_forms_beside_right_tables(self):
        fields = self.fields("within")
        for number, part in enumerate(fields[8][1:], 1):
            (words, there, entries), merges = part[-1]
            table, last = part[-1][0], merges[:-1]
            wrong = [(table,), (table, merges, ()), table, (table, last), (table, merges + merges[:1]), (table, ()),
                     ((words, there, entries[:-1]), merges), ((words[:-1] + (2,), there, entries), merges)]
            wrong += [(table, last + (told,)) for told in (
                ("as", len(entries)), ("as", -1), ("as", True), ("as", None), ("as",), ("as", 0, 0), ("none", 0),
                ("clash", 0), ("other", 0), ("none", None), ("both",), (), ("",), "none", ("As", 0), (("as", 0),),
                (0,))]
            for value in any_values():
                wrong += [value, (value, merges), (table, value), (table, (value,) + merges[1:]),
                          (table, merges + (value,)), (table, last + (("as", value),))]
            for told in wrong:
                if told not in ((table, last + (("as", 0),)), (table, last + (("as", 1),)),
                                (table, last + (("as", 2),))):
                    tables = [list(told_part) for told_part in fields[8]]
                    tables[number].append(told)
                    self.assertIs(self.bent(fields, 8, tables), False, told)

    def test_more_tables_if_what_they_ask_is_there(self):
        few, more = [self.fields("around", True, values, ("get", "has")) for values in ((1,), (1, 2, 3))]
        self.assertLess(len(few[8][2]), len(more[8][2]))
        self.assertEqual([row[:3] for row in few[7]], [row[:3] for row in more[7]])
        self.assertIs(self.bent(few, 8, more[8]), True)
        self.assertIs(self.bent(more, 8, few[8]), False)
        self.assertIs(self.bent(few, 8, (more[8][0], (), few[8][2])), False)

    def test_a_triple_of_more_tables_has_to_stand_in_the_rows(self):
        few = self.fields("same", True, (2,), ("put", "set"))
        more = self.fields("same", True, (1, 2), ("put", "set"))
        self.assertGreater(len(more[7]), len(few[7]))
        self.assertIs(self.bent(more, 7, few[7]), False)

    def test_sets_that_the_relation_does_not_name(self):
        apart = self.fields("apart")
        for relation, unnamed in (("within", 0), ("around", 1), ("same", 0), ("same", 1)):
            fields = self.fields(relation)
            tables = list(fields[8])
            self.assertEqual(tables[unnamed], ())
            tables[unnamed] = apart[8][unnamed][:1]
            self.assertIs(self.bent(fields, 8, tables), False)
        for one, other in ((0, 1), (1, 0), (0, 2), (2, 0), (1, 2)):
            tables = [list(part) for part in apart[8]]
            tables[one].append(tables[other][0])
            self.assertIs(self.bent(apart, 8, tables), False)

    def test_too_many_tables_and_joints(self):
        fields = self.fields("apart", True, (1,), ("get", "has"))
        zero, one, both = fields[8]
        for many, told in ((1000, True), (1001, False)):
            self.assertIs(self.bent(fields, 8, (zero, one, (both * 1001)[:many])), told)
        for first, second, told in ((50, 40, True), (40, 50, True), (69, 29, False), (29, 69, False)):
            self.assertIs(self.bent(fields, 8, ((zero * 99)[:first], (one * 99)[:second], both)), told)
        fields = self.fields("around", True, (1,), ("get", "has"))
        for many, told in ((1000, True), (1001, False)):
            self.assertIs(self.bent(fields, 8, ((fields[8][0] * 1001)[:many],) + fields[8][1:]), told)

    def test_any_fields(self):
        fields = self.fields("within")
        kinds = [Plan, Routine, Routine, Rule, str, bool, tuple, tuple, tuple]
        for number in range(9):
            for value in any_values() + [fields[8][1], (fields[8],), fields[7], "around", (1, 1), (2, 1), (), 1,
                                         (1, 10)]:
                if kinds[number] in (Plan, Routine, Rule) and isinstance(value, kinds[number]):
                    continue
                if alike(tupled(value), fields[number]) or (number == 6 and alike(tupled(value), (1,))):
                    continue
                # What put and strike come to does not hang on their values.
                if number == 5 and isinstance(value, bool):
                    continue
                self.assertIs(self.bent(fields, number, value), False, (number, value))
        self.assertIs(is_forks(Forks(*fields)), True)

    def test_other_arguments(self):
        fields = self.fields("within")
        for number, values in (
            (0, [CAREFUL, LATE, BACK]), (1, [DEEDS["strike"], DEEDS["set"]]), (2, [DEEDS["put"], DEEDS["has"]]),
            (3, [BARE, FREE, Rule([], [])]), (4, ["same", "around", "apart"]), (6, [(1, 2, 3), (1, 3)]),
        ):
            for value in values:
                told = self.bent(fields, number, value)
                again = judge_forks(*fields[:number], value, *fields[number + 1:7])
                right = again.rows == fields[7] and set(again.tables[2]) <= set(fields[8][2])
                self.assertIs(told, right and again.tables[:2] == fields[8][:2], (number, value))

    def test_fields_are_copied(self):
        for value in any_values():
            paper = Forks(*[value] * 9)
            for told in (paper.plan, paper.first, paper.second, paper.rule, paper.relation, paper.alike,
                         paper.value_list, paper.rows, paper.tables):
                self.assertTrue(alike(told, tupled(value)))
