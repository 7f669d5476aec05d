"""Closing: all tables of a question that come up in the trees of a rule, each with a least part that has it.

What is told of a part, a table or a fork table, is told by the folder.
"""

from heapq import heappop, heappush

from treeshed.errors import BadRelation, BadValues, TooMany
from treeshed.folding import Fold
from treeshed.rules import least_part
from treeshed.tables import is_let
from treeshed.words import is_value

RELATIONS = ("same", "within", "around", "apart")
MOST_TABLES = 1000
MOST_JOINTS = 2000
MOST_BELOW = 2


def is_relation(value):
    """Whether any value is a relation of two words."""
    return isinstance(value, str) and value in RELATIONS


def check_asked(relation, values):
    """Raises an error if nothing can be judged for this relation and these values."""
    if not is_relation(relation):
        raise BadRelation(relation)
    if len(values) == 0:
        raise BadValues(0)
    least = 1
    for index, value in enumerate(values):
        if not is_value(value) or value < least:
            raise BadValues(index)
        least = value + 1


def let_cells(rule, values, root):
    """For 0, 1 and 2 tables below that are there: a list of the cells that are let over them."""
    cells = [None]
    for value in [None] + list(values):
        for flag in (False, True):
            cells.extend([(value, flag, rest) for rest in range(3)])
    return [[cell for cell in cells if is_let(rule, cell, there, root)] for there in range(MOST_BELOW + 1)]


def bottoms_of(relation, zero, one):
    """A list of the tuples of tables, of word 0 and of word 1, over which both words are together at last."""
    if relation == "same":
        return [()]
    if relation == "within":
        return [(table,) for table in one]
    if relation == "around":
        return [(table,) for table in zero]
    return [(table, other) for table in zero for other in one]


def cells_over(lower, cells):
    """The cells that are let over these tables; cells are those of let_cells."""
    return cells[len([table for table in lower if table.there])]


class Part:
    """A part that has a table: its cell, the parts below, and how many places and letters it takes."""

    def __init__(self, cell, lower, places, height):
        self.cell = cell
        self.lower = lower
        self.places = places
        self.height = height
        # The table, as one below a place, and its number; set when it is sure that no part with fewer places has it.
        self.told = None
        self.number = None


def told_of(parts):
    """A list of the tables of these parts."""
    return [part.told for part in parts]


class TableSet:
    """The tables of some words, found least part first."""

    def __init__(self, ground, words):
        self.ground = ground
        self.words = words
        self.number_of = {}
        self.tables = []
        self.least = []
        self.offers = []
        self.waiting = []
        self.parts = []

    def close(self, bottoms):
        """Finds all tables over these tuples of parts, and over the parts found."""
        for lower in bottoms:
            self.offer_over(lower)
        while self.waiting:
            number, part = self.offers[heappop(self.waiting)[-1]]
            if self.least[number] == (part.places, part.height):
                part.told = self.ground.folder.part_of(self.tables[number])
                part.number = number
                self.parts.append(part)
                self.offer_over((part,))

    def offer_over(self, lower):
        """Takes the tables of all cells that are let over these parts."""
        told = told_of(lower)
        for cell in cells_over(told, self.ground.cells):
            table = self.ground.folder.told_over(self.words, cell, told)
            self.offer(table, self.ground.part_over(cell, lower))

    def offer(self, table, part):
        """Takes a part with its table, unless a part that is as small has it."""
        key = self.ground.folder.key_of(table)
        size = (part.places, part.height)
        if key not in self.number_of:
            if len(self.tables) == MOST_TABLES:
                raise TooMany("tables", MOST_TABLES + 1, MOST_TABLES)
            self.number_of[key] = len(self.tables)
            self.tables.append(table)
            self.least.append(size)
        elif self.least[self.number_of[key]] <= size:
            return
        number = self.number_of[key]
        self.least[number] = size
        heappush(self.waiting, (part.places, part.height, len(self.offers)))
        self.offers.append((number, part))

    def all_tables(self):
        """The tuple of the tables, ascending."""
        return tuple(sorted(self.tables))


class Ground:
    """What sets of tables are closed over: a folder, values, and the cells that are let."""

    def __init__(self, folder, values):
        self.folder = folder
        self.value_list = tuple(values)
        self.cells = let_cells(folder.rule, values, False)
        self.root_cells = let_cells(folder.rule, values, True)
        # None if there are no such parts: then no cell that is let has any.
        self.rest_places = least_part(folder.rule) or 0

    def closed_set(self, words, named, bottoms):
        """The set of the tables of these words; an empty one if it is not named."""
        found = TableSet(self, words)
        if named:
            found.close(bottoms)
        return found

    def part_over(self, cell, lower):
        """The part with this cell over these parts."""
        places = 0
        if cell is not None:
            places = 1 + sum([part.places for part in lower]) + cell[2] * self.rest_places
        height = 1 + max([part.height for part in lower]) if lower else 0
        return Part(cell, lower, places, height)


class Closing(Ground):
    """The sets of tables of a relation, and the roots over them."""

    def __init__(self, folder, relation, values):
        Ground.__init__(self, folder, values)
        self.zero = self.closed_set((0,), relation in ("around", "apart"), [()])
        self.one = self.closed_set((1,), relation in ("within", "apart"), [()])
        joints = len(self.zero.parts) * len(self.one.parts)
        if joints > MOST_JOINTS:
            raise TooMany("joints", joints, MOST_JOINTS)
        self.bottoms = bottoms_of(relation, self.zero.parts, self.one.parts)
        self.both = self.closed_set((0, 1), True, self.bottoms)

    def roots(self):
        """A list of all roots, as parts, those with fewest places first."""
        found = []
        for lower in self.bottoms + [(part,) for part in self.both.parts]:
            found.extend([self.part_over(cell, lower) for cell in cells_over(told_of(lower), self.root_cells)])
        order = sorted([(part.places, part.height, number) for number, part in enumerate(found)])
        return [found[number] for places, height, number in order]

    def fold_of(self, root):
        """A root, to be played at."""
        return Fold(self.folder, (0, 1), root.cell, told_of(root.lower), True)

    def all_sets(self):
        """The triple of the tuples of the tables, each ascending."""
        return (self.zero.all_tables(), self.one.all_tables(), self.both.all_tables())
