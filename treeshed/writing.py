"""The texts of routines: the lines of blocks, and the texts of tests."""

INDENT = "    "
TEST_TEXTS = {
    "mark": "marked", "own": "own", "flag": "flag", "root": "at root", "ends": "at end", "next": "next", "true": "true",
}
OTHERS_TEXTS = ("others == 0", "others == 1", "others > 1")


def text_of_test(test):
    """The text of a test."""
    head = test[0]
    if head == "not":
        return "not " + in_brackets(test[1], ("and", "or"))
    if head == "and":
        return in_brackets(test[1], ("or",)) + " and " + in_brackets(test[2], ("and", "or"))
    if head == "or":
        return text_of_test(test[1]) + " or " + in_brackets(test[2], ("or",))
    return OTHERS_TEXTS[test[1]] if head == "others" else TEST_TEXTS[head]


def in_brackets(test, heads):
    """The text of a test, in brackets if it has one of these heads."""
    text = text_of_test(test)
    return "(" + text + ")" if test[0] in heads else text


def text_of_statement(statement):
    """The line of a statement without blocks."""
    if statement[0] == "flag":
        return "flag = true" if statement[1] else "flag = false"
    return " ".join(statement)


def lines_of_block(block, depth):
    """A list of the lines of a block whose statements stand so deep."""
    lines = []
    for statement in block:
        if statement[0] == "if":
            lines.extend(lines_of_if(statement, depth))
        else:
            lines.append(INDENT * depth + text_of_statement(statement))
    return lines


def lines_of_if(statement, depth):
    """A list of the lines of an if, with its elifs and its else."""
    lines = []
    opener = "if"
    second = (statement,)
    while len(second) == 1 and second[0][0] == "if":
        _, test, first, second = second[0]
        lines.append(INDENT * depth + f"{opener} {text_of_test(test)}:")
        lines.extend(lines_of_block(first, depth + 1))
        opener = "elif"
    if second:
        lines.append(INDENT * depth + "else:")
        lines.extend(lines_of_block(second, depth + 1))
    return lines


def lines_of_routine(blocks):
    """A list of the lines of a routine whose blocks are told as pairs (name, block)."""
    lines = []
    for name, block in blocks:
        if block:
            lines.append(name + ":")
            lines.extend(lines_of_block(block, 1))
    return lines
