"""How many new places a call may have, for all trees of a rule and all words of a length."""

from treeshed.closing import Ground, cells_over, told_of
from treeshed.errors import BadSize
from treeshed.folding import Fold, Folder, Stories
from treeshed.least import tree_and_pair
from treeshed.questions import Question
from treeshed.words import is_integer

MOST_LETTERS = 100
# That of the call, and one more.
SHOWN_VALUES = (1, 2)
WORDS = (0,)


def check_letters_asked(letters):
    """Raises BadSize for any value that is no number of letters that may be asked for."""
    if not is_integer(letters) or not 0 <= letters <= MOST_LETTERS:
        raise BadSize(letters)


def new_here(stories, lower):
    """The pair of how many new places the top and what was made below it have, and whether those below count, too."""
    if stories.first_new > 0 and stories.trees[1] == stories.trees[0]:
        return (0, False)
    # The call's story is the second one, whether the part was there or not.
    below = stories.states[1][3]
    if len(below) == 0 or below[0] is None:
        return (1, False)
    if below[0] in (0, lower[0].told.first_new):
        # The call has not gone into the child, which is new only if it was made.
        return (1 if lower[0].told.there else 2, False)
    return (1, True)


class Step:
    """A part, or a root, over another part or none: its table's number, its cell, and what is new in it."""

    def __init__(self, number, cell, stories, lower):
        self.number = number
        self.cell = cell
        self.many, self.counts_below = new_here(stories, lower)

    def many_over(self, many_below):
        """How many new places there are, with so many in the part below."""
        return self.many + (many_below if self.counts_below else 0)


class Ways:
    """The one-word tables of a routine in a rule, and the parts that have most new places."""

    def __init__(self, routine, rule):
        self.folder = Folder(Question([(routine, 0, 1)], [0], [], []), rule)
        self.ground = Ground(self.folder, SHOWN_VALUES)
        self.tables = self.ground.closed_set(WORDS, True, [()])
        self.told_by_number = {part.number: part.told for part in self.tables.parts}

    def steps_over(self, lower, root):
        """A list of the steps from these parts to the place above."""
        told = told_of(lower)
        found = []
        for cell in cells_over(told, self.ground.root_cells if root else self.ground.cells):
            stories = Stories(Fold(self.folder, WORDS, cell, told, root))
            number = None if root else self.tables.number_of[self.folder.key_of(stories.table())]
            found.append(Step(number, cell, stories, lower))
        return found

    def best_of(self, steps_below):
        """For each table's number a pair (many, part): a part with most new places, from pairs of a step and a pair."""
        best = {}
        for step, (many_below, lower) in steps_below:
            many = step.many_over(many_below)
            if step.number not in best or best[step.number][0] < many:
                part = self.ground.part_over(step.cell, lower)
                part.told = self.told_by_number.get(step.number)
                best[step.number] = (many, part)
        return best

    def greatest(self, letters):
        """A pair (many, root), the root being one with most new places on so many letters; None if there is none."""
        ends = (0, ())
        if letters == 0:
            return self.best_of([(step, ends) for step in self.steps_over((), True)]).get(None)
        best = self.best_of([(step, ends) for step in self.steps_over((), False)])
        steps = {part.number: self.steps_over((part,), False) for part in self.tables.parts}
        for _ in range(letters - 1):
            best = self.best_of([
                (step, (best[number][0], (best[number][1],))) for number in best for step in steps[number]])
        steps_to_roots = []
        for number in best:
            many, part = best[number]
            steps_to_roots.extend([(step, (many, (part,))) for step in self.steps_over((part,), True)])
        return self.best_of(steps_to_roots).get(None)


def greatest_call(routine, rule, letters):
    """A tuple (many, tree, word, value) of a call with most new places; None if the rule has no tree."""
    check_letters_asked(letters)
    ways = Ways(routine, rule)
    found = ways.greatest(letters)
    if found is None:
        return None
    many, root = found
    tree, pair = tree_and_pair(root, rule, SHOWN_VALUES)
    return (many, tree, pair[0], SHOWN_VALUES[0])
