"""Reading the texts of routines, line by line."""

from treeshed.errors import BadText
from treeshed.statements import BLOCKS, DEEPEST_TEST, MOST_STATEMENTS, PLAIN_STATEMENTS, RETURNS
from treeshed.writing import INDENT, OTHERS_TEXTS, TEST_TEXTS, text_of_test

# Deeper than any test may be, so that what a wrong text tells is never taken.
TOO_DEEP = 1000
LONGEST_PLAIN_TEST = 3


def plain_tests():
    """A dict from the texts of tests without tests in them to these tests."""
    found = {TEST_TEXTS[head]: (head,) for head in TEST_TEXTS}
    for many, text in enumerate(OTHERS_TEXTS):
        found[text] = ("others", many)
    return found


def plain_statement(text, name):
    """The statement without blocks of this text, or None if the block of this name lets none such."""
    words = text.split(" ")
    if text in PLAIN_STATEMENTS[name]:
        return (text,)
    if text in ("flag = true", "flag = false"):
        return ("flag", text == "flag = true")
    if len(words) == 2 and words[0] == "return" and words[1] in RETURNS:
        return ("return", words[1])
    return None


class TestReader:
    """Reads the text of a test, word by word; a test that is too deep or wrong is told as TOO_DEEP."""

    def __init__(self, text):
        self.words = text.replace("(", "( ").replace(")", " )").split(" ")
        self.position = 0
        self.plain = plain_tests()

    def comes(self, word):
        """Whether this word comes next; if so, it is passed."""
        found = self.position < len(self.words) and self.words[self.position] == word
        if found:
            self.position += 1
        return found

    def joined(self, joint, level):
        """The pair of a test and its depth: what stands between joints, from the left on."""
        test, depth = self.operand(joint, level)
        while depth <= DEEPEST_TEST and self.comes(joint):
            right, deeper = self.operand(joint, level)
            test, depth = (joint, test, right), max(depth, deeper) + 1
        return test, depth

    def operand(self, joint, level):
        """What stands beside this joint."""
        return self.joined("and", level) if joint == "or" else self.single(level)

    def single(self, level):
        """A test behind not, a test in brackets, or one without tests in it."""
        # Each not and each pair of brackets is a level of tests, so no right text goes deeper.
        if level > DEEPEST_TEST:
            return None, TOO_DEEP
        if self.comes("not"):
            test, depth = self.single(level + 1)
            return ("not", test), depth + 1
        if self.comes("("):
            test, depth = self.joined("or", level + 1)
            return (test, depth) if self.comes(")") else (None, TOO_DEEP)
        for many in range(1, LONGEST_PLAIN_TEST + 1):
            text = " ".join(self.words[self.position:self.position + many])
            if text in self.plain:
                self.position += many
                return self.plain[text], 1
        return None, TOO_DEEP


def test_of(text):
    """The test that is written so, or None."""
    reader = TestReader(text)
    test, depth = reader.joined("or", 1)
    if depth > DEEPEST_TEST or reader.position < len(reader.words) or text_of_test(test) != text:
        return None
    return test


class RoutineReader:
    """Takes the lines of a text, one by one, as long as they are right."""

    def __init__(self):
        self.blocks = {name: [] for name in BLOCKS}
        self.name = None
        self.many = 0
        # The blocks that may go on, the outermost first: pairs of a list of statements and, for the
        # first block of an if, the list of its second block, otherwise None.
        self.levels = []
        # Whether the innermost block has been opened just now and has no line yet.
        self.fresh = False

    def takes(self, line):
        """Whether the line is right behind those before; if so, it is taken."""
        text = line.lstrip(" ")
        blanks = len(line) - len(text)
        if text.endswith(":") and text[:-1] in BLOCKS:
            return blanks == 0 and self.opens_block(text[:-1])
        depth = blanks // len(INDENT)
        if blanks != depth * len(INDENT) or not 1 <= depth <= len(self.levels):
            return False
        if self.fresh and depth < len(self.levels):
            return False
        if text == "else:":
            return self.opens_else(depth)
        if text.startswith("if ") and text.endswith(":"):
            return self.opens_if(depth, test_of(text[3:-1]))
        if text.startswith("elif ") and text.endswith(":"):
            return self.opens_elif(depth, test_of(text[5:-1]))
        return self.adds(depth, plain_statement(text, self.name))

    def opens_block(self, name):
        """Whether the block of this name may begin now; if so, it does."""
        if self.fresh or (self.name is not None and BLOCKS.index(name) <= BLOCKS.index(self.name)):
            return False
        self.name = name
        self.levels = [(self.blocks[name], None)]
        self.fresh = True
        return True

    def adds(self, depth, statement):
        """Whether there is such a statement and one more may stand; if so, it stands so deep."""
        if statement is None or self.many == MOST_STATEMENTS:
            return False
        self.many += 1
        self.levels = self.levels[:depth]
        self.levels[-1][0].append(statement)
        self.fresh = False
        return True

    def opens_if(self, depth, test):
        """Whether an if with this test may stand so deep; if so, its first block begins."""
        first, second = [], []
        if test is None or not self.adds(depth, ("if", test, first, second)):
            return False
        self.levels.append((first, second))
        self.fresh = True
        return True

    def opens_else(self, depth):
        """Whether the second block of an if so deep may begin now; if so, it does."""
        if self.fresh or len(self.levels) <= depth or self.levels[depth][1] is None:
            return False
        self.levels = self.levels[:depth] + [(self.levels[depth][1], None)]
        self.fresh = True
        return True

    def opens_elif(self, depth, test):
        """Whether an elif with this test may stand so deep; if so, its first block begins."""
        if not self.opens_else(depth) or not self.opens_if(depth + 1, test):
            return False
        # The elif stands as deep as the if that it goes on: the else between them has no line.
        self.levels = self.levels[:depth] + [self.levels[-1]]
        return True


def blocks_of(text):
    """A dict from the names of blocks to the lists of statements that a text tells."""
    reader = RoutineReader()
    if not isinstance(text, str):
        raise BadText(0)
    lines = text.split("\n") if text != "" else []
    for number, line in enumerate(lines):
        if not reader.takes(line):
            raise BadText(number)
    if reader.fresh:
        raise BadText(len(lines))
    return reader.blocks


def first_unlike(text, other):
    """The number of the first line in which two texts differ."""
    lines, others = text.split("\n"), other.split("\n")
    for number, (line, beside) in enumerate(zip(lines, others)):
        if line != beside:
            return number
    return min(len(lines), len(others))
