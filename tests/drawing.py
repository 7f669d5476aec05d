"""Drawn routines, trees, words, rules and questions."""

from tests.helpers import KINDS
from treeshed.books import known_deeds
from treeshed.questions import Question
from treeshed.routines import Routine
from treeshed.rules import Rule, kind_of, known_rule
from treeshed.trees import Tree

RETURNS = ("yes", "no", "value", "node", "p")
LET = {
    "down": ("mark", "unmark", "make", "keep", "stop"), "turn": ("mark", "unmark", "cut", "keep"),
    "up": ("mark", "unmark", "cut", "stop"),
}
PLAIN_TESTS = [("mark",), ("own",), ("flag",), ("root",), ("ends",), ("next",), ("true",)]
PLAIN_TESTS += [("others", many) for many in range(3)]


def some_test(source, level=1, deepest=4):
    """A test, as a tuple, at this level of tests within one another."""
    if level >= deepest or source.random() < 0.55:
        return source.choice(PLAIN_TESTS)
    head = source.choice(["not", "and", "or"])
    return (head,) + tuple(some_test(source, level + 1, deepest) for _ in range(1 if head == "not" else 2))


def deepest_of(test):
    """How many tests stand within one another, this one counted."""
    return 1 + max([deepest_of(part) for part in test[1:] if isinstance(part, tuple)], default=0)


def some_statement(source, name, depth):
    """A statement for the block of this name."""
    chance = source.random()
    if chance < 0.45 and depth < 3:
        first = some_block(source, name, depth + 1, 1)
        return ("if", some_test(source), first, some_block(source, name, depth + 1))
    if chance < 0.55:
        return ("return", source.choice(RETURNS))
    if chance < 0.65:
        return ("flag", source.random() < 0.5)
    head = source.choice(LET[name])
    # Mostly without a misuse, so that calls do not all end at once.
    if head == "make" and source.random() < 0.8:
        return ("if", ("not", ("next",)), (("make",),), ())
    if head == "cut" and source.random() < 0.8:
        return ("if", ("next",), (("cut",),), ())
    return (head,)


def some_block(source, name, depth=0, least=0):
    """A block, as tuples."""
    return tuple(some_statement(source, name, depth) for _ in range(source.randint(least, 2 if depth else 4)))


def some_blocks(source):
    """Three blocks, some of them empty, with at most 40 statements together."""
    while True:
        blocks = [some_block(source, name) if source.random() < 0.8 else () for name in LET]
        if sum(map(many_statements, blocks)) <= 40:
            return blocks


def many_statements(block):
    """How many statements a block has."""
    return sum(1 + sum(map(many_statements, told[2:])) if told[0] == "if" else 1 for told in block)


def some_routine(source):
    """A routine that does anything, in some cases one that keeps places and comes up with them."""
    down, turn, up = some_blocks(source)
    if source.random() < 0.2 and many_statements(up) <= 36:
        down = (("if", some_test(source), (("keep",),), ()),)
        turn = (("if", some_test(source), (("keep",),), ()),)
    return Routine(down, turn, up)


def some_tree(source, letters, many, values=(None, None, 1, 2, 3)):
    """A tree with so many places."""
    places = [""]
    while len(places) < many:
        place = source.choice(places) + source.choice(letters)
        if place not in places:
            places.append(place)
    return Tree(letters, [(place, source.choice(values), source.random() < 0.3) for place in places])


def some_word(source, letters, longest):
    """A word of at most so many letters."""
    return "".join(source.choice(letters) for _ in range(source.randint(0, longest)))


def some_pair(source, letters):
    """Two words: the same, one within the other, or any."""
    word = some_word(source, letters, 4)
    chance = source.random()
    if chance < 0.25:
        return (word, word)
    if chance < 0.5:
        return (word, word + some_word(source, letters, 3))
    if chance < 0.7:
        return (word + some_word(source, letters, 3), word)
    return (word, some_word(source, letters, 4))


def rule_around(source, tree):
    """A rule that the tree keeps, with some other kinds."""
    root = [kind_of(tree, "")] + source.sample(KINDS, 4)
    others = [kind_of(tree, row[0]) for row in tree.rows[1:]] + source.sample(KINDS, 4)
    return Rule(list(dict.fromkeys(root)), list(dict.fromkeys(others)))


def some_calls(source, many):
    """So many calls, some routines among them twice, and some known deeds."""
    base = [some_routine(source), some_routine(source)] + list(known_deeds().values())[:6:source.choice([1, 2, 6])]
    return [
        (source.choice(base) if source.random() < 0.5 else some_routine(source), source.randint(0, 1),
         source.randint(1, 2))
        for _ in range(many)]


def some_scripts(source, many):
    """Two scripts over so many calls, with at most four numbers together."""
    while True:
        one, other = [source.sample(range(many), source.randint(0, many)) for _ in range(2)]
        if source.random() < 0.4:
            other = source.sample(one, len(one))
        if len(one) + len(other) <= 4:
            return one, other


def some_question(source, aspects, share=0.2):
    """A question with these aspects, in a share of the cases with a where."""
    many = source.choice([1, 2, 2, 2, 3, 4])
    one, other = some_scripts(source, many)
    where = {}
    if one and source.random() < share:
        where = {source.choice(one): source.choice(["yes", "no", "none", "is", "at", "misuse"])}
    return Question(some_calls(source, many), one, other, aspects, where)


def some_part(source, letters, kinds, others, depth, values=(1, 2, 3)):
    """Rows of a part with one of these kinds at its top, those at other places below it; None if none is found."""
    leaves = [kind for kind in kinds if kind[2] == 0]
    for kept, flag, children in source.sample(leaves if depth == 0 else kinds, len(leaves if depth == 0 else kinds)):
        rows = [("", source.choice(values) if kept else None, flag)]
        many = children if children < 2 else source.randint(2, min(3, len(letters)))
        for letter in source.sample(letters, many):
            part = some_part(source, letters, others, others, depth - 1, values)
            if part is None:
                rows = None
                break
            rows.extend((letter + place, value, told) for place, value, told in part)
        if rows is not None:
            return rows
    return None


def tree_of(source, rule, letters, depth=3):
    """A tree of the rule, None if none is found."""
    rows = some_part(source, letters, list(rule.root), list(rule.others), depth)
    return None if rows is None else Tree(letters, rows)


def side_of(source, rule, tree, changes=2):
    """A tree of the rule that is made of another one by growing some parts anew, or with one more or less."""
    for _ in range(source.randint(0, changes)):
        top = source.choice([row[0] for row in tree.rows])
        chance = source.random()
        if chance < 0.3:
            top = top + source.choice(tree.letters)
        rows = [row for row in tree.rows if not row[0].startswith(top)]
        if chance < 0.8:
            kinds = list(rule.others if top else rule.root)
            part = some_part(source, tree.letters, kinds, list(rule.others), source.randint(0, 2))
            rows += [(top + place, value, flag) for place, value, flag in part or ()]
        if rows and rule.keeps(Tree(tree.letters, rows)):
            tree = Tree(tree.letters, rows)
    return tree


def three_of(source, rule, letters):
    """Three trees of the rule, two of them mostly sides of the first one; None if none are found."""
    base = tree_of(source, rule, letters, source.randint(0, 3))
    if base is None:
        return None
    if source.random() < 0.1:
        return base, tree_of(source, rule, letters, 2) or base, tree_of(source, rule, letters, 1) or base
    one = side_of(source, rule, base)
    return base, one, side_of(source, rule, one if source.random() < 0.3 else base)


def rule_of_few(source, least=3):
    """A rule of a few kinds, or a known one."""
    if source.random() < 0.4:
        return known_rule(source.choice(["plain", "joined", "bare", "free"]))
    return Rule(source.sample(KINDS, source.randint(least, 8)), source.sample(KINDS, source.randint(least, 8)))
