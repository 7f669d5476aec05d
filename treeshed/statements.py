"""Statements and tests: what of any value is one, and how many a block has."""

from treeshed.errors import BadStatement
from treeshed.words import is_integer

BLOCKS = ("down", "turn", "up")
MOST_STATEMENTS = 40
DEEPEST_TEST = 6
RETURNS = ("yes", "no", "value", "node", "p")
# The statements of one word that each block lets.
PLAIN_STATEMENTS = {
    "down": ("mark", "unmark", "make", "keep", "stop"),
    "turn": ("mark", "unmark", "cut", "keep"),
    "up": ("mark", "unmark", "cut", "stop"),
}
PLAIN_TESTS = ("mark", "own", "flag", "root", "ends", "next", "true")


def is_row(value):
    """Whether any value is a list or a tuple."""
    return isinstance(value, (list, tuple))


def has_head(value):
    """Whether any value is a list or a tuple with a string ahead."""
    return is_row(value) and len(value) > 0 and isinstance(value[0], str)


def is_test(value, level=1):
    """Whether any value is a test that may stand at this level of tests within one another."""
    if level > DEEPEST_TEST or not has_head(value):
        return False
    head, rest = value[0], value[1:]
    if head in ("not", "and", "or"):
        many = 1 if head == "not" else 2
        return len(rest) == many and all([is_test(part, level + 1) for part in rest])
    if head == "others":
        return len(rest) == 1 and is_integer(rest[0]) and 0 <= rest[0] <= 2
    return head in PLAIN_TESTS and len(rest) == 0


def is_statement(value, name):
    """Whether any value is right by itself as a statement of the block of this name."""
    if not has_head(value):
        return False
    head, rest = value[0], value[1:]
    if head == "if":
        return is_rest_of_if(rest)
    if head == "flag":
        return len(rest) == 1 and isinstance(rest[0], bool)
    if head == "return":
        return len(rest) == 1 and isinstance(rest[0], str) and rest[0] in RETURNS
    return head in PLAIN_STATEMENTS[name] and len(rest) == 0


def is_rest_of_if(rest):
    """Whether this is a test, a block with a statement, and a block."""
    if len(rest) != 3 or not is_row(rest[1]) or not is_row(rest[2]):
        return False
    return len(rest[1]) > 0 and is_test(rest[0])


def count_statements(name, block):
    """How many statements a block has, those within ifs too; raises the error of the first wrong one."""
    if not is_row(block):
        raise BadStatement(name, 0)
    many = 0
    # A list of what is still to come, its end first: ifs may stand in one another thousands deep.
    waiting = list(reversed(block))
    while waiting:
        statement = waiting.pop()
        if not is_statement(statement, name):
            raise BadStatement(name, many)
        many += 1
        if statement[0] == "if":
            waiting.extend(list(reversed(statement[3])))
            waiting.extend(list(reversed(statement[2])))
    return many
