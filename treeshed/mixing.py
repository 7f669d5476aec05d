"""What a merge does at one place: the same for trees, for cases, for fork tables and for groves.

A cell is the pair (value, flag) of a place here, or None if the part is missing.
"""

BARE = (None, False)


def next_step(plan, there, one_same, other_same):
    """What becomes of three parts: "one" or "other" (that side's part), "nothing", "clash", or "on".

    there tells of base, one and other whether they are there; the last two, which sides are the same as the base.
    """
    base, one, other = there
    if one_same:
        return "other"
    if other_same:
        return "one"
    if not one and not other:
        return "clash" if plan.alike == "clash" else "nothing"
    if base and not (one and other):
        if plan.gone == "clash":
            return "clash"
        if plan.gone == "kept":
            return "one" if one else "other"
    return "on"


def merged_cell(plan, cells):
    """The cell of a place where the merge goes on, ahead of the plan's flags; None if the place clashes."""
    base = BARE if cells[0] is None else cells[0]
    # A base that is missing is never asked for by "base": then both sides are there.
    missing = base if plan.gone == "base" else BARE
    one, other = [missing if cell is None else cell for cell in cells[1:]]
    value = merged_value(plan, base[0], one[0], other[0])
    if value == "clash":
        return None
    return (value, other[1] if one[1] == base[1] else one[1])


def merged_value(plan, base, one, other):
    """The value of a place where the merge goes on, or "clash"."""
    if one == base:
        return other
    if other == base:
        return one
    if one == other:
        return "clash" if plan.alike == "clash" else one
    if plan.unlike == "clash":
        return "clash"
    return one if plan.unlike == "one" else other


def is_left_out(plan, root, value, children):
    """Whether a place with this value and so many children is left out."""
    return plan.tidy and not root and value is None and children == 0


def told_flag(flags, root, value, children, flag):
    """The flag that the plan's flags tell for a place; its own, if they are None."""
    return flag if flags is None else flags[(root, value is not None, min(2, children))]


def due_values(base, one, other):
    """The tuple of the values due for a word that has these values (None: not kept)."""
    if one == base:
        return (other,)
    if other == base or other == one:
        return (one,)
    return (one, other)
