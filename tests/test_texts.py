"""Promise 41: the texts of routines, and reading them."""

import itertools
import unittest

from tests.drawing import LET, deepest_of, many_statements, some_routine, some_test
from tests.helpers import any_values, check_raises, seconds_of, seeded
from treeshed.books import known_deeds
from treeshed.errors import BadText
from treeshed.routines import Routine

TEXTS = {
    ("mark",): "marked", ("own",): "own", ("flag",): "flag", ("root",): "at root", ("ends",): "at end",
    ("next",): "next", ("others", 0): "others == 0", ("others", 1): "others == 1", ("others", 2): "others > 1",
    ("true",): "true",
}
M, O, F = ("mark",), ("own",), ("flag",)
BRACKETS = [
    (("not", M), "not marked"), (("not", ("not", M)), "not not marked"), (("not", ("and", M, O)),
    "not (marked and own)"),
    (("not", ("or", M, O)), "not (marked or own)"), (("and", ("not", M), ("not", O)), "not marked and not own"),
    (("and", ("and", M, O), F), "marked and own and flag"), (("and", M, ("and", O, F)), "marked and (own and flag)"),
    (("and", ("or", M, O), F), "(marked or own) and flag"), (("and", M, ("or", O, F)), "marked and (own or flag)"),
    (("or", ("or", M, O), F), "marked or own or flag"), (("or", M, ("or", O, F)), "marked or (own or flag)"),
    (("or", ("and", M, O), F), "marked and own or flag"), (("or", M, ("and", O, F)), "marked or own and flag"),
    (("or", ("not", ("or", M, O)), ("not", F)), "not (marked or own) or not flag"),
    (("not", ("and", ("or", M, ("others", 0)), ("root",))), "not ((marked or others == 0) and at root)"),
    (("and", ("or", M, O), ("and", F, ("or", M, O))), "(marked or own) and (flag and (marked or own))"),
    (("or", ("and", ("or", M, O), F), ("or", ("and", M, O), F)),
    "(marked or own) and flag or (marked and own or flag)"),
]
WRONG_TESTS = [
    "", " ", "mark", "root", "end", "ends", "others", "others == 2", "others > 0", "others == -1", "others==0",
    "others>1",
    "at  root", "at", "at root ", " at root", "Marked", "marked own", "marked and", "and marked", "or", "not",
    "marked or", "(marked)", "((marked))", "not (marked)", "(not marked)", "marked and (own)", "(marked and own)",
    "(marked and own) and flag", "(marked or own) or flag", "marked or (own and flag)", "(marked and own) or flag",
    "not (not marked)", "not(marked or own)", "not ( marked or own )", "not (marked or own ) and own", "(marked or own",
    "marked or own)", "not (marked or own))", "not ((marked or own))", "marked  or own", "marked\tor own",
    "marked && own",
    "not  marked", "(marked and own) and (flag)", "true false", "false", "others == 0 1", "()", "not ()", ")(", "(",
    ")",
    "marked and (not own)", "marked, own", "marked or not", "not not not not not not marked", "marked:",
    "marked and own and flag and own and flag and own and flag", "at root own", "others", "others ==", "next next",
]
# Texts and the line that is wrong.
WRONG_TEXTS = [
    ("\n", 0), (" ", 0), ("mark", 0), ("    mark", 0), ("down", 0), ("Down:", 0), (" down:", 0), ("    down:", 0),
    ("down: ", 0),
    ("down:", 1), ("down:\n", 1), ("down:\n    mark\n", 2), ("\ndown:\n    mark", 0), ("down:\n\n    mark", 1),
    ("down:\nmark", 1), ("down:\n   mark", 1), ("down:\n     mark", 1), ("down:\n        mark", 1),
    ("down:\n\tmark", 1),
    ("down:\n    mark\n        mark", 2), ("down:\n    mark\nmark", 2), ("down:\n    mark\n  mark", 2),
    ("down:\n    mark\n    turn:\n    mark", 2), ("down:\n    mark\ndown:\n    mark", 2),
    ("turn:\n    mark\ndown:\n    mark", 2),
    ("up:\n    mark\nturn:\n    mark", 2), ("up:\n    mark\nup:\n    mark", 2), ("down:\nturn:\n    mark", 1),
    ("down:\n    mark\nturn:\nup:\n    mark", 3), ("down:\n    mark\nturn:", 3),
    ("down:\n    mark\n\nturn:\n    mark", 2),
    ("turn:\n    make", 1), ("up:\n    make", 1), ("down:\n    cut", 1), ("up:\n    keep", 1), ("turn:\n    stop", 1),
    ("down:\n    mark \n    mark", 1), ("down:\n    mark  ", 1), ("down:\n    flag", 1), ("down:\n    flag = True", 1),
    ("down:\n    flag=true", 1), ("down:\n    flag = 1", 1), ("down:\n    return", 1), ("down:\n    return none", 1),
    ("down:\n    return  yes", 1), ("down:\n    return yes no", 1), ("down:\n    Mark", 1),
    ("down:\n    mark\r\n    mark", 1),
    ("down:\n    mark;", 1), ("down:\n    mark # why", 1), ("down:\n    # why\n    mark", 1), ("down:\n    pass", 1),
    ("down:\n    if own:", 2), ("down:\n    if own\n        mark", 1), ("down:\n    if own :\n        mark", 1),
    ("down:\n    if own:\n    mark", 2), ("down:\n    if own:\n            mark", 2),
    ("down:\n    if own:\nturn:\n    mark", 2),
    ("down:\n    if own: mark", 1), ("down:\n    if:\n        mark", 1),
    ("down:\n    if own:\n        mark\n    else:", 4),
    ("down:\n    else:\n        mark", 1), ("down:\n    elif own:\n        mark", 1),
    ("down:\n    mark\n    else:\n        mark", 2),
    ("down:\n    if own:\n        mark\n    mark\n    else:\n        mark", 4),
    ("down:\n    if own:\n        mark\n    mark\n    elif own:\n        mark", 4),
    ("down:\n    if own:\n        mark\n    else:\n        mark\n    else:\n        mark", 5),
    ("down:\n    if own:\n        mark\n    else:\n        mark\n    elif own:\n        mark", 5),
    ("down:\n    if own:\n        mark\n        else:\n        mark", 3),
    ("down:\n    if own:\n        mark\nelse:\n        mark", 3), ("down:\n    if own:\n    else:\n        mark", 2),
    ("down:\n    if own:\n        mark\n    elif flag:\n    else:\n        mark", 4),
    ("down:\n    if own:\n        mark\n    else:\n    mark", 4),
    ("down:\n    if own:\n        mark\n    else: \n        mark", 3),
    ("down:\n    if own:\n        mark\n    else :\n        mark", 3),
    ("down:\n    if own:\n        mark\n    elif:\n        mark", 3),
    ("down:\n    if own:\n        if flag:\n            mark\n    else:\n            mark", 5),
    ("down:\n    if own:\n        mark\n    elsf own:\n        mark\n    mork", 3),
    ("down:\n    ib own:\n        mark\n    mork", 1),
    ("down:\n    if own:\n        mark\n    elif own\n        mark\n    mork", 3),
    ("down:\n    if own\n        mark\n    mork", 1),
    # An else whose block is just one if, told only if nothing else is wrong.
    ("down:\n    if own:\n        mark\n    else:\n        if flag:\n            mark", 3),
    ("up:\n    if own:\n        mark\n    else:\n        if own:\n            cut\n        else:\n            cut", 3),
    ("up:\n    if own:\n        cut\n    else:\n        if own:\n            cut\n        elif own:\n            cut",
     3),
    ("down:\n    if own:\n        mark\n    else:\n        if flag:\n            mark\n    mork", 6),
    ("down:\n    if own:\n        mark\n    else:\n        if flag:\n            mark\n    if own:", 7),
    ("up:\n    if own:\n        mark\n    elif own:\n        mark\n    else:\n        if flag:\n            mark", 5),
]


def text_with(test, word="if"):
    """The text of a routine with a test of this text."""
    if word == "if":
        return f"turn:\n    mark\n    if {test}:\n        cut"
    return f"turn:\n    if own:\n        mark\n    elif {test}:\n        cut"


class TextTest(unittest.TestCase):
    def test_statements(self):
        down = [("mark",), ("unmark",), ("flag", True), ("flag", False), ("make",), ("keep",), ("stop",)]
        returns = [("return", what) for what in ("yes", "no", "value", "node", "p")]
        routine = Routine(down, [("cut",)], returns)
        lines = ["down:", "    mark", "    unmark", "    flag = true", "    flag = false", "    make", "    keep",
            "    stop",
                 "turn:", "    cut", "up:", "    return yes", "    return no", "    return value", "    return node",
                 "    return p"]
        self.assertEqual(routine.text(), "\n".join(lines))
        self.assertEqual(Routine.read("\n".join(lines)), routine)

    def test_empty_blocks(self):
        self.assertEqual(Routine([], [], []).text(), "")
        self.assertEqual(Routine.read(""), Routine([], [], []))
        for number, name in enumerate(LET):
            blocks = [[("mark",)] if other == number else [] for other in range(3)]
            self.assertEqual(Routine(*blocks).text(), f"{name}:\n    mark")
            self.assertEqual(Routine.read(f"{name}:\n    mark"), Routine(*blocks))

    def test_ifs(self):
        inner = ("if", F, [("mark",)], [("unmark",)])
        routine = Routine([], [("if", M, [inner, ("cut",)], [inner, ("cut",)])], [])
        lines = ["turn:", "    if marked:", "        if flag:", "            mark", "        else:",
            "            unmark",
                 "        cut", "    else:", "        if flag:", "            mark", "        else:",
                 "            unmark",
                 "        cut"]
        self.assertEqual(routine.text().split("\n"), lines)
        self.assertEqual(Routine.read(routine.text()), routine)

    def test_elifs(self):
        told = ("if", M, [("mark",)], [("if", O, [("cut",)], [("if", F, [("if", M, [("mark",)], [])], [])])])
        routine = Routine([], [told, ("mark",)], [])
        lines = ["turn:", "    if marked:", "        mark", "    elif own:", "        cut", "    elif flag:",
                 "        if marked:", "            mark", "    mark"]
        self.assertEqual(routine.text().split("\n"), lines)
        self.assertEqual(Routine.read(routine.text()), routine)

    def test_an_else_that_is_just_one_statement_but_no_if(self):
        routine = Routine([], [("if", M, [("mark",)], [("cut",)])], [])
        self.assertEqual(routine.text(), "turn:\n    if marked:\n        mark\n    else:\n        cut")

    def test_brackets(self):
        for test, text in BRACKETS + list(TEXTS.items()):
            routine = Routine([], [("mark",), ("if", test, [("cut",)], [])], [])
            self.assertEqual(routine.text(), text_with(text))
            self.assertEqual(Routine.read(text_with(text)), routine)
            routine = Routine([], [("if", O, [("mark",)], [("if", test, [("cut",)], [])])], [])
            self.assertEqual(Routine.read(text_with(text, "elif")), routine)

    def test_all_small_tests(self):
        small = [M, ("others", 2)]
        for _ in range(2):
            joined = [(head, one, other) for head in ("and", "or") for one, other in itertools.product(small, small)]
            small = small[:2] + [("not", test) for test in small] + joined
        for test in small:
            routine = Routine([], [("mark",), ("if", test, [("cut",)], [])], [])
            self.assertEqual(Routine.read(routine.text()), routine)


class ReadTest(unittest.TestCase):
    def test_text_and_read_are_each_others_reverse(self):
        source = seeded(51)
        for _ in range(500):
            routine = some_routine(source)
            text = routine.text()
            self.assertEqual(Routine.read(text), routine)
            self.assertEqual(Routine.read(text).text(), text)
        for routine in known_deeds().values():
            self.assertEqual(Routine.read(routine.text()), routine)

    def test_what_is_read_is_tuples(self):
        routine = Routine.read("down:\n    if not own:\n        flag = true\n    else:\n        return p")
        expected = (("if", ("not", ("own",)), (("flag", True),), (("return", "p"),)),)
        self.assertEqual(repr(routine.down), repr(expected))

    def test_values_that_are_no_strings(self):
        for value in any_values() + [b"down:\n    mark", ["down:", "    mark"]]:
            if value != "":
                check_raises(self, BadText, {"line": 0}, Routine.read, value)

    def test_wrong_texts(self):
        for text, line in WRONG_TEXTS:
            check_raises(self, BadText, {"line": line}, Routine.read, text)

    def test_wrong_texts_behind_right_lines(self):
        start = "down:\n    if own:\n        keep\n    elif own:\n        stop\n    else:\n        make\n        keep"
        for name in ("turn", "up"):
            for text, line in WRONG_TEXTS:
                if text.startswith(f"{name}:\n"):
                    check_raises(self, BadText, {"line": line + 8}, Routine.read, start + "\n" + text)

    def test_wrong_tests(self):
        for test in WRONG_TESTS:
            check_raises(self, BadText, {"line": 2}, Routine.read, text_with(test))
            check_raises(self, BadText, {"line": 3}, Routine.read, text_with(test, "elif"))

    def test_tests_of_six_and_seven(self):
        source = seeded(52)
        for _ in range(400):
            test = some_test(source, 1, source.choice([6, 7, 8, 9]))
            text = text_with(written(test))
            if deepest_of(test) <= 6:
                self.assertEqual(Routine.read(text).turn[1][1], test)
            else:
                check_raises(self, BadText, {"line": 2}, Routine.read, text)
        for many in (5, 6):
            text = text_with("not " * many + "own")
            if many == 5:
                self.assertEqual(Routine.read(text).text(), text)
            else:
                check_raises(self, BadText, {"line": 2}, Routine.read, text)

    def test_texts_with_thousands_of_brackets(self):
        for many in (10, 1000, 50000):
            for test in (
                "(" * many + "own" + ")" * many, "(" * many, ")" * many, "not (" * many + "own" + ")" * many,
                "not " * many,
                "own and (" * many + "own" + ")" * many, "own and " * many + "own", "own or " * many + "own",
                "(own or own) and " * many + "own", "()" * many, "not " * many + "own",
            ):
                self.assertLess(seconds_of(Routine.read, text_with(test)), 1)
                check_raises(self, BadText, {"line": 2}, Routine.read, text_with(test))

    def test_40_and_41_statements(self):
        lines = ["down:"] + ["    mark"] * 40
        self.assertEqual(len(Routine.read("\n".join(lines)).down), 40)
        check_raises(self, BadText, {"line": 41}, Routine.read, "\n".join(lines + ["    mark", "    mork"]))
        check_raises(self, BadText, {"line": 42}, Routine.read, "\n".join(lines + ["turn:", "    mark"]))
        check_raises(self, BadText, {"line": 41}, Routine.read, "\n".join(lines + ["    if own:", "        mark"]))
        chain = ["down:", "    if own:", "        mark"] + ["    elif own:", "        mark"] * 19
        self.assertEqual(many_statements(Routine.read("\n".join(chain)).down), 40)
        self.assertEqual(Routine.read("\n".join(chain)).text(), "\n".join(chain))
        check_raises(self, BadText, {"line": 41}, Routine.read, "\n".join(chain + ["    elif own:", "        mark"]))
        self.assertEqual(Routine.read("\n".join(chain[:-2] + ["    else:", "        mark"])).text()[-4:], "mark")
        check_raises(self, BadText, {"line": 42}, Routine.read, "\n".join(chain + ["    else:", "        mark"]))
        deep = ["up:"] + ["    " * depth + "if own:" for depth in range(1, 40)] + ["    " * 40 + "mark"]
        self.assertEqual(Routine.read("\n".join(deep)).text(), "\n".join(deep))
        check_raises(self, BadText, {"line": 41}, Routine.read, "\n".join(deep + ["    " * 40 + "mark"]))

    def test_great_texts_are_read_soon(self):
        deep = ["up:"] + ["    " * depth + "if own:" for depth in range(1, 3000)]
        self.assertLess(seconds_of(Routine.read, "\n".join(deep)), 1)
        self.assertLess(seconds_of(Routine.read, "down:\n" + "    mark\n" * 200000), 1)
        full = "down:\n" + "\n".join(["    if own and (own or own and (own or own)):\n        mark"] * 20)
        self.assertLess(seconds_of(Routine.read, full), 1)


def written(test):
    """The text of a test, told once more: brackets where an outer one binds as tightly or more."""
    head = test[0]
    if head == "not":
        return "not " + bracketed(test[1], 3)
    if head in ("and", "or"):
        binds = 2 if head == "and" else 1
        return bracketed(test[1], binds) + f" {head} " + bracketed(test[2], binds + 1)
    return TEXTS[test]


def bracketed(test, least):
    """The text of a test, in brackets if it binds less than it has to."""
    binds = {"or": 1, "and": 2}.get(test[0], 3)
    # The document asks for brackets around an and or an or behind an and, but not around an and behind an or.
    return f"({written(test)})" if binds < least else written(test)


class WrongLineTest(unittest.TestCase):
    def marks(self, lines):
        """Lines that close all blocks that these leave open, so that no else is left with just one if."""
        last = lines[-1] if lines else "down:"
        depth = (len(last) - len(last.lstrip(" "))) // 4 + (1 if last.endswith(":") else 0)
        return [] if not lines else ["    " * more + "mark" for more in range(depth, 0, -1)]

    def test_the_line_is_the_first_one_that_no_right_text_has_there(self):
        source = seeded(53)
        pool = ["", "mark", "make", "cut", "keep", "stop", "else:", "elif own:", "if own:", "down:", "turn:", "up:",
            "mork",
                "return p", "if (own):"]
        for _ in range(1500):
            lines = some_routine(source).text().split("\n")
            if len(lines) < 2 or len(lines) > 30:
                continue
            at = source.randrange(len(lines))
            line = source.choice(pool)
            lines[at] = source.choice(["    " * source.randint(0, 4) + line, lines[at] + " ", lines[at][1:], line])
            self.check("\n".join(lines))

    def check(self, text):
        lines = text.split("\n")
        try:
            self.assertEqual(Routine.read(text).text(), text)
            return
        except BadText as error:
            number = error.line
        ahead = lines[:number]
        right = "\n".join(ahead + self.marks(ahead))
        if number < len(lines) and lines[number].strip() == "else:" and self.only_else_is_wrong(text):
            return
        self.assertEqual(Routine.read(right).text(), right)
        if number < len(lines):
            # A line of its own, as "" alone is the text without lines.
            more = lines[:number + 1] + ([""] if lines[:number + 1] == [""] else [])
            check_raises(self, BadText, {"line": number}, Routine.read, "\n".join(more + self.marks(more)))
        else:
            self.assertTrue(lines[-1].endswith(":"))

    def only_else_is_wrong(self, text):
        """Whether the text can be read once each else is followed by one mark more."""
        found = []
        for line in text.split("\n"):
            found.append(line)
            if line.strip() == "else:":
                found.append(" " * (len(line) - len(line.lstrip(" ")) + 4) + "mark")
        try:
            Routine.read("\n".join(found))
            return True
        except BadText:
            return False
