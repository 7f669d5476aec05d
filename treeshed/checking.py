"""Checking papers: whether sets of tables, any values, are closed."""

from treeshed.closing import MOST_JOINTS, MOST_TABLES, bottoms_of, cells_over, check_asked, let_cells
from treeshed.errors import BadRelation, BadValues

SETS = ((0,), (1,), (0, 1))
# The sets that a relation does not name.
UNNAMED_SETS = {"same": (0, 1), "within": (0,), "around": (1,), "apart": ()}


def may_be_judged(relation, value_list):
    """Whether these two, any values, are asked for without an error."""
    if not isinstance(value_list, tuple):
        return False
    try:
        check_asked(relation, value_list)
    except (BadRelation, BadValues):
        return False
    return True


def are_sets(relation, tables, is_told):
    """Whether any value is three tuples of tables, not too many; is_told tells whether any value is one of words."""
    if not isinstance(tables, tuple) or len(tables) != 3:
        return False
    for number, words in enumerate(SETS):
        if not isinstance(tables[number], tuple) or len(tables[number]) > MOST_TABLES:
            return False
        if number in UNNAMED_SETS[relation] and len(tables[number]) > 0:
            return False
        if not all([is_told(table, words) for table in tables[number]]):
            return False
    return len(tables[0]) * len(tables[1]) <= MOST_JOINTS


def closed_roots(folder, relation, value_list, tables):
    """A list of the pairs (cell, tables below) of all roots over three sets of tables; None if these are not closed."""
    found = [{folder.key_of(table): folder.part_of(table) for table in told} for told in tables]
    zero, one, both = [list(parts.values()) for parts in found]
    bottoms = bottoms_of(relation, zero, one)
    cells = let_cells(folder.rule, value_list, False)
    for number, lowest in ((0, [()]), (1, [()]), (2, bottoms)):
        named = number not in UNNAMED_SETS[relation]
        if named and not has_what_it_asks(folder, SETS[number], lowest, found[number], cells):
            return None
    root_cells = let_cells(folder.rule, value_list, True)
    lowers = bottoms + [(part,) for part in both]
    return [(cell, lower) for lower in lowers for cell in cells_over(lower, root_cells)]


def has_what_it_asks(folder, words, bottoms, found, cells):
    """Whether the tables found have among them each one that is asked over these bottoms and over themselves."""
    for lower in bottoms + [(part,) for part in list(found.values())]:
        for cell in cells_over(lower, cells):
            if folder.key_of(folder.told_over(words, cell, lower)) not in found:
                return False
    return True
