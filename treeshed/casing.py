"""Cases of three parts, told by the sums of the cases below them and by their cells."""

from itertools import product

from treeshed.mixing import due_values, is_left_out, merged_cell, next_step, told_flag

OUTCOMES = ("none", "tree", "rule", "words", "clash")
# What a sum tells as worst, the better ones first.
WORSTS = ("right", "rule", "words", "clash")
EMPTY = (0, 0, 0, 0, True, True, False, False, False, "right")
# None, or values that are numbered as they stand first: all that a merge can tell of three values.
VALUE_TRIPLES = (
    (None, None, None), (None, None, 1), (None, 1, None), (None, 1, 1), (None, 1, 2), (1, None, None), (1, None, 1),
    (1, None, 2), (1, 1, None), (1, 1, 1), (1, 1, 2), (1, 2, None), (1, 2, 1), (1, 2, 2), (1, 2, 3),
)


def sum_with(total, case):
    """The sum with one case more."""
    bases, ones, others, results, all_one, all_other, some_one, some_other, some_both, worst = total
    base, one, other, one_same, other_same, alike_one, alike_other, both, outcome = case
    made = outcome in ("tree", "rule", "words")
    if outcome in WORSTS and WORSTS.index(outcome) > WORSTS.index(worst):
        worst = outcome
    return (
        min(2, bases + base), min(2, ones + one), min(2, others + other), min(2, results + made),
        all_one and one_same, all_other and other_same, some_one or alike_one, some_other or alike_other,
        some_both or both, worst)


def is_same(cell, base, all_same):
    """Whether a side's part and the base's are the same, told by their cells and the sum of what is below."""
    if cell is None:
        return base is None
    return cell == base and all_same


def value_in(cell):
    """The value of the top of a part, None if it is missing."""
    return None if cell is None else cell[0]


class Caser:
    """What is told once for a plan and a rule."""

    def __init__(self, plan, rule):
        self.plan = plan
        self.told_flags = plan.flags
        self.rule = rule
        # For the numbers of children of the three, and whether they stand at the root: the cells that are let.
        self.triples = {}

    def is_let(self, cell, children, root):
        """Whether a part may have this cell over so many children."""
        if cell is None:
            return children == 0 and not root
        return (cell[0] is not None, cell[1], children) in (self.rule.root if root else self.rule.others)

    def cells_over(self, total, root):
        """A list of the triples of cells that are let over a sum, with as few values as tell all."""
        key = total[:3] + (root,)
        if key not in self.triples:
            found = []
            for values in VALUE_TRIPLES:
                choices = [self.choices(value, children, root) for value, children in zip(values, total)]
                found.extend([cells for cells in product(choices[0], choices[1], choices[2]) if any(cells)])
            self.triples[key] = found
        return self.triples[key]

    def choices(self, value, children, root):
        """A list of the cells with this value that are let over so many children."""
        cells = [(value, False), (value, True)]
        if value is None:
            cells.append(None)
        return [cell for cell in cells if self.is_let(cell, children, root)]

    def case(self, total, cells, root):
        """The case of three parts with these cells, which are let, over this sum."""
        base, one, other = cells
        one_same = is_same(one, base, total[4])
        other_same = is_same(other, base, total[5])
        values = [value_in(cell) for cell in cells]
        alike_one = (values[0] is not None and values[1] == values[0]) or total[6]
        alike_other = (values[0] is not None and values[2] == values[0]) or total[7]
        both = (values[1] != values[0] and values[2] != values[0]) or total[8]
        there = (base is not None, one is not None, other is not None)
        step = next_step(self.plan, there, one_same, other_same)
        if step == "on":
            outcome = self.outcome_on(total, cells, root)
        elif step == "clash":
            outcome = "clash"
        elif not (there[1] if step == "one" else there[2]):
            # With "nothing" both are missing.
            outcome = "none"
        elif one_same or other_same:
            outcome = "tree"
        else:
            # Taken by "kept", while the other side has struck all its words.
            outcome = "words" if (alike_one if step == "one" else alike_other) else "tree"
        return there + (one_same, other_same, alike_one, alike_other, both, outcome)

    def outcome_on(self, total, cells, root):
        """The outcome where the merge goes on."""
        made = merged_cell(self.plan, cells)
        results, worst = total[3], total[9]
        if worst == "clash" or made is None:
            return "clash"
        value, flag = made
        if is_left_out(self.plan, root, value, results):
            return "none"
        if worst == "words" or value not in due_values(value_in(cells[0]), value_in(cells[1]), value_in(cells[2])):
            return "words"
        flag = told_flag(self.told_flags, root, value, results, flag)
        if worst == "rule" or not self.is_let((value, flag), results, root):
            return "rule"
        return "tree"
