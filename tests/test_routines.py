"""Promises 2, 5 and 41: statements, tests, class Routine and its errors."""

import copy
import itertools
import unittest

from tests.drawing import LET, deepest_of, many_statements, some_block, some_blocks, some_test
from tests.helpers import alike, any_values, check_raises, seconds_of, seeded
from treeshed.errors import BadStatement, TooMany
from treeshed.routines import Routine

BLOCKS = ("down", "turn", "up")
HEADS = ("mark", "unmark", "make", "cut", "keep", "stop")
STRIKE = (
    "turn:\n    if not at end or not marked:\n        return no\n    unmark\n    if at root or not others == 0:\n"
    "        return yes\nup:\n    cut\n    if at root or marked or not others == 0:\n        return yes")
WRONG_TESTS = [
    None, "mark", (), [], ("mark", "mark"), ("Mark",), ("marked",), ("others",), ("others", 3), ("others", -1),
    ("others", True), ("others", False), ("others", "1"), ("others", None), ("others", 1, 1), ("not",),
    ("not", ("mark",), ("mark",)), ("and", ("mark",)), ("or", ("mark",)), ("and", ("mark",), ("own",), ("flag",)),
    ("not", "mark"), ("and", ("mark",), ("make",)), ("or", ("others", 3), ("mark",)), (("mark",),), (1,), (True,),
    {"mark": 1}, ("at", "root"), ("if", ("mark",)), ("true", True), ("next", 0), (["mark"],), ("yes",),
]
WRONG_STATEMENTS = [
    (), [], ("mark", 1), ("marks",), ("unmark", None), ("flag",), ("flag", 0), ("flag", 1), ("flag", None),
    ("flag", "true"), ("flag", True, True), ("make", "a"), ("cut", "a"), ("keep", ()), ("stop", "up"), ("return",),
    ("return", None), ("return", "none"), ("return", True), ("return", ("yes",)), ("return", ["yes"]),
    ("return", "yes", "no"), ("return", "is"), ("Return", "yes"), "mark", "make", b"mark", (("mark",),), (None,), (0,),
    (["mark"],), ({"mark": 1},), ("else",), ("if",), ("if", ("mark",)), ("if", ("mark",), [("mark",)]),
    ("if", ("mark",), [("mark",)], [], []), ("if", ("mark",), [], []), ("if", ("mark",), (), [("mark",)]),
    ("if", ("mark",), None, []), ("if", ("mark",), [("mark",)], None), ("if", ("mark",), "mark", []),
    ("if", ("mark",), [("mark",)], {}), ("if", ("mark",), {"mark": 1}, []), ("elif", ("mark",), [("mark",)], []),
]


def as_lists(value):
    """The tuples as lists, at every depth."""
    return [as_lists(part) for part in value] if isinstance(value, tuple) else value


def either(source, value):
    """The tuples, each of them as it is or as a list."""
    if not isinstance(value, tuple):
        return value
    return source.choice([list, tuple])(either(source, part) for part in value)


def in_block(name, block):
    """The three blocks, with this one at this name."""
    return [block if name == other else [] for other in BLOCKS]


def chain(many, inner):
    """So many ifs within one another, around a statement."""
    for _ in range(many):
        inner = ("if", ("mark",), [inner], [])
    return inner


def nots(many):
    """A test of so many within one another."""
    test = ("mark",)
    for _ in range(many - 1):
        test = ("not", test)
    return test


class SessionTest(unittest.TestCase):
    def test_the_session(self):
        strike = Routine.read(STRIKE)
        expected = [(), ("unmark",), ("cut",), ("or", ("or", ("root",), ("mark",)), ("not", ("others", 0)))]
        self.assertTrue(alike([strike.down, strike.turn[1], strike.up[0], strike.up[1][1]], expected))
        make = ("if", ("next",), [("stop",)], [("make",)])
        routine = Routine([("if", ("not", ("or", ("own",), ("flag",))), [("flag", True)], [make])], [], [])
        lines = ["down:", "    if not (own or flag):", "        flag = true", "    elif next:", "        stop",
                 "    else:", "        make"]
        self.assertEqual(routine.text().split("\n"), lines)


class StatementTest(unittest.TestCase):
    def test_which_blocks_let_which_statements(self):
        for name, head in itertools.product(BLOCKS, HEADS):
            for told in ((head,), [head]):
                for block in ([told], (told,)):
                    if head in LET[name]:
                        self.assertTrue(alike(getattr(Routine(*in_block(name, block)), name), ((head,),)))
                    else:
                        check_raises(
                            self, BadStatement, {"block": name, "number": 0}, Routine, *in_block(name, block))

    def test_flags_and_returns_in_each_block(self):
        told = [("flag", True), ["flag", False]] + [("return", what) for what in ("yes", "no", "value", "node", "p")]
        for name in BLOCKS:
            routine = Routine(*in_block(name, told))
            self.assertTrue(alike(getattr(routine, name), tuple(map(tuple, told))))

    def test_each_test(self):
        plain = [("mark",), ("own",), ("flag",), ("root",), ("ends",), ("next",), ("true",)]
        plain += [("others", many) for many in range(3)]
        joined = [("not", test) for test in plain] + [
            (head, one, other) for head in ("and", "or") for one, other in itertools.product(plain, plain)]
        for test in plain + joined:
            for told in (test, as_lists(test)):
                routine = Routine([("if", told, [("mark",)], [])], [], [])
                self.assertTrue(alike(routine.down, (("if", test, (("mark",),), ()),)))

    def test_wrong_statements(self):
        right = [("mark",), ["flag", True], ("return", "no")]
        for wrong in WRONG_STATEMENTS + any_values():
            for name, number in itertools.product(BLOCKS, range(4)):
                block = right[:number] + [wrong] + right[number:] + [None]
                check_raises(
                    self, BadStatement, {"block": name, "number": number}, Routine, *in_block(name, block))

    def test_wrong_tests(self):
        for test in WRONG_TESTS + any_values():
            for wrong in (test, ("not", test), ["and", ("mark",), test], ("or", test, ["true"])):
                block = [("mark",), ("if", wrong, [("cut",)], [None]), None]
                check_raises(self, BadStatement, {"block": "turn", "number": 1}, Routine, [], block, [None])

    def test_blocks_that_are_no_lists(self):
        for wrong in [None, "", "mark", "abc", b"ab", 0, True, {}, {("mark",): ("mark",)}, {0: ("mark",)}]:
            check_raises(self, BadStatement, {"block": "down", "number": 0}, Routine, wrong, [None], [None])
            check_raises(self, BadStatement, {"block": "turn", "number": 0}, Routine, [], wrong, [None])
            check_raises(self, BadStatement, {"block": "up", "number": 0}, Routine, [("mark",)], [], wrong)
        for wrong in any_values():
            if not isinstance(wrong, (list, tuple)) or len(wrong) > 0:
                check_raises(self, BadStatement, {"block": "up", "number": 0}, Routine, [], [], wrong)

    def test_blocks_come_in_their_order(self):
        wrong = [("mark",), None]
        check_raises(self, BadStatement, {"block": "down", "number": 1}, Routine, wrong, [None], [None])
        check_raises(self, BadStatement, {"block": "turn", "number": 1}, Routine, [("mark",)], wrong, None)
        check_raises(self, BadStatement, {"block": "up", "number": 1}, Routine, [], [("mark",)], wrong)


class NumberTest(unittest.TestCase):
    def test_statements_within_ifs_are_numbered_in_the_order_of_the_text(self):
        block = [
            ("mark",), ("if", ("own",), [("unmark",), ("if", ("flag",), [("keep",)], [("cut",)]), ("mark",)],
                        [("flag", True), ("mark",)]), ("return", "no")]
        # What stands at each number, as the steps that lead there.
        steps = [
            (0,), (1,), (1, 2, 0), (1, 2, 1), (1, 2, 1, 2, 0), (1, 2, 1, 3, 0), (1, 2, 2), (1, 3, 0), (1, 3, 1), (2,)]
        for number, way in enumerate(steps):
            for worse in range(number, len(steps)):
                told = all_lists(block)
                # The later one first: what is put in the place of an if takes away what stands in it.
                put_at(told, steps[worse], ["stop"])
                put_at(told, steps[number], ["stop"])
                check_raises(self, BadStatement, {"block": "turn", "number": number}, Routine, [], told, [])

    def test_an_if_is_wrong_ahead_of_what_stands_in_it(self):
        for told in (
            ("if", ("nothing",), [None], [None]), ("if", ("mark",), [None], None), ("if", ("own",), [], [None]),
        ):
            check_raises(self, BadStatement, {"block": "down", "number": 1}, Routine, [("mark",), told], [], [])
        inner = ("if", ("mark",), [None], [])
        check_raises(self, BadStatement, {"block": "down", "number": 1}, Routine, [inner], [], [])
        check_raises(
            self, BadStatement, {"block": "up", "number": 2}, Routine, [], [],
            [("if", ("mark",), [("mark",)], [("make",), None])])

    def test_drawn_blocks_with_a_wrong_statement(self):
        source = seeded(41)
        for _ in range(300):
            name = source.choice(BLOCKS)
            block = some_block(source, name)
            many = many_statements(block)
            if many == 0:
                continue
            number = source.randrange(many)
            wrong = source.choice([None, (), ("make", 1), ["flag"], ("if", ("mark",), [], [])])
            told, _ = spoiled_at(block, number, wrong)
            check_raises(self, BadStatement, {"block": name, "number": number}, Routine, *in_block(name, told))


def all_lists(value):
    """Lists at every depth, made anew, so that parts can be changed."""
    return [all_lists(part) for part in value] if isinstance(value, (list, tuple)) else value


def put_at(told, way, statement):
    """Puts a statement where these steps lead."""
    for step in way[:-1]:
        told = told[step]
    told[way[-1]] = statement


def spoiled_at(block, number, wrong):
    """The pair of the block with a wrong statement at a number, and of the number that is left of it."""
    found = []
    for statement in block:
        if number == 0:
            found.append(wrong)
            number = -1
            continue
        number -= 1
        if statement[0] == "if" and number >= 0:
            first, number = spoiled_at(statement[2], number, wrong)
            second, number = (statement[3], -1) if number < 0 else spoiled_at(statement[3], number, wrong)
            statement = ("if", statement[1], first, second)
        found.append(statement)
    return found, number


class LimitTest(unittest.TestCase):
    def test_40_and_41_statements(self):
        for blocks in (
            [[("mark",)] * 40, [], []], [[], [("mark",)] * 40, []], [[], [], [chain(39, ("mark",))]],
            [[("mark",)] * 13, [chain(12, ("cut",))], [("if", ("own",), [("mark",)] * 6, [("cut",)] * 7)]],
        ):
            routine = Routine(*blocks)
            self.assertEqual(sum(many_statements(getattr(routine, name)) for name in BLOCKS), 40)
            for number in range(3):
                more = list(blocks)
                more[number] = list(more[number]) + [("unmark",)]
                check_raises(self, TooMany, {"what": "statements", "many": 41, "most": 40}, Routine, *more)

    def test_many_statements(self):
        fields = {"what": "statements", "many": 10000, "most": 40}
        check_raises(self, TooMany, fields, Routine, [("mark",)] * 10000, [], [])
        check_raises(self, TooMany, fields, Routine, [("mark",)] * 3000, [("cut",)] * 5000, [("stop",)] * 2000)

    def test_wrong_statements_are_due_ahead_of_too_many(self):
        many = [("mark",)] * 9999
        check_raises(self, BadStatement, {"block": "down", "number": 9999}, Routine, many + [None], [], [])
        check_raises(self, BadStatement, {"block": "up", "number": 0}, Routine, many, many, [("make",)])
        check_raises(self, BadStatement, {"block": "turn", "number": 0}, Routine, many, None, [])

    def test_tests_of_six_and_seven_within_one_another(self):
        source = seeded(42)
        six = nots(6)
        self.assertEqual(Routine([], [], [("if", six, [("mark",)], [])]).up[0][1], six)
        check_raises(
            self, BadStatement, {"block": "up", "number": 0}, Routine, [], [], [("if", nots(7), [("mark",)], [])])
        for _ in range(300):
            test = some_test(source, 1, source.choice([6, 7, 8]))
            blocks = [[("make",), ("if", either(source, test), [("mark",)], [])], [], []]
            if deepest_of(test) <= 6:
                self.assertEqual(Routine(*blocks).down[1][1], test)
            else:
                check_raises(self, BadStatement, {"block": "down", "number": 1}, Routine, *blocks)

    def test_full_tests_of_six(self):
        test = ("others", 2)
        while deepest_of(test) < 6:
            test = ("and", test, ("or", ("own",), ("flag",))) if deepest_of(test) < 5 else ("not", test)
        routine = Routine([], [("if", test, [("mark",)], [])], [])
        self.assertEqual(Routine.read(routine.text()), routine)

    def test_ifs_and_nots_hundreds_deep(self):
        for many in (100, 900, 9000):
            fields = {"what": "statements", "many": many + 1, "most": 40}
            check_raises(self, TooMany, fields, Routine, [], [chain(many, ("mark",))], [])
            check_raises(
                self, BadStatement, {"block": "turn", "number": many}, Routine, [], [chain(many, ("make",))], [])
            second = ("mark",)
            for _ in range(many // 3):
                second = ["if", ("mark",), [("mark",)], [second, ("mark",)]]
            check_raises(self, TooMany, {"many": many // 3 * 3 + 1}, Routine, [second], [], [])
            wrong = [("if", nots(many), [("mark",)], [])]
            check_raises(self, BadStatement, {"block": "down", "number": 0}, Routine, wrong, [], [])
            row = ("mark",)
            for _ in range(many):
                row = ["and", ("own",), row]
            wrong = [("if", row, [("mark",)], [])]
            check_raises(self, BadStatement, {"block": "down", "number": 0}, Routine, wrong, [], [])

    def test_many_statements_are_counted_soon(self):
        wide = ("mark",)
        for _ in range(5):
            wide = ("and", wide, wide)
        statement = ("if", wide, [("mark",)], [])
        self.assertLess(seconds_of(Routine, [statement] * 5000, [], []), 3)


class FieldTest(unittest.TestCase):
    def test_blocks_are_tuples_down_to_the_tests(self):
        source = seeded(43)
        for _ in range(200):
            blocks = some_blocks(source)
            for told in (blocks, [as_lists(block) for block in blocks], [either(source, block) for block in blocks]):
                routine = Routine(*told)
                self.assertTrue(alike([routine.down, routine.turn, routine.up], list(blocks)))

    def test_empty_blocks(self):
        routine = Routine([], (), [])
        self.assertTrue(alike([routine.down, routine.turn, routine.up], [(), (), ()]))

    def test_lists_are_neither_changed_nor_kept(self):
        down = [["if", ["not", ["own"]], [["make"]], [["flag", True]]]]
        turn, up = [["mark"]], [["cut"]]
        before = copy.deepcopy([down, turn, up])
        routine = Routine(down, turn, up)
        text = routine.text()
        self.assertTrue(alike([down, turn, up], before))
        down[0][1][1][0] = "flag"
        down[0][2].append(["stop"])
        turn.clear()
        up[0][0] = "mark"
        self.assertEqual(routine.text(), text)
        self.assertEqual(routine, Routine(*before))

    def test_equal_and_unlike_routines(self):
        routine = Routine([("flag", True)], [("mark",)], [("cut",)])
        self.assertTrue(routine == Routine([["flag", True]], (["mark"],), [("cut",)]))
        self.assertFalse(routine != Routine([["flag", True]], (["mark"],), [("cut",)]))
        others = [
            Routine([("flag", False)], [("mark",)], [("cut",)]), Routine([("flag", True)], [], [("cut",)]),
            Routine([("flag", True)], [("mark",)], []), Routine([], [], []), routine.text(),
            (routine.down, routine.turn, routine.up),
        ]
        for other in others + any_values():
            self.assertFalse(routine == other)
            self.assertFalse(other == routine)
        one, other = [Routine([("if", ("others", many), [("mark",)], [])], [], []) for many in (0, 1)]
        self.assertFalse(one == other)
