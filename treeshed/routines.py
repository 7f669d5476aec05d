"""Routines: three blocks of statements, and their texts."""

from treeshed.copies import as_tuples
from treeshed.errors import BadText, TooMany
from treeshed.reading import blocks_of, first_unlike
from treeshed.statements import MOST_STATEMENTS, count_statements
from treeshed.writing import lines_of_routine


class Routine:
    """What a call does on its way down, where it turns, and on its way up; it does not change."""

    def __init__(self, down, turn, up):
        many = count_statements("down", down) + count_statements("turn", turn) + count_statements("up", up)
        if many > MOST_STATEMENTS:
            raise TooMany("statements", many, MOST_STATEMENTS)
        self.down = as_tuples(down)
        self.turn = as_tuples(turn)
        self.up = as_tuples(up)

    @classmethod
    def read(cls, text):
        """The routine with this text."""
        blocks = blocks_of(text)
        routine = cls(blocks["down"], blocks["turn"], blocks["up"])
        if routine.text() != text:
            raise BadText(first_unlike(text, routine.text()))
        return routine

    def __eq__(self, other):
        return (
            isinstance(other, Routine) and self.down == other.down and self.turn == other.turn
            and self.up == other.up)

    def text(self):
        """The text that read takes."""
        return "\n".join(lines_of_routine((("down", self.down), ("turn", self.turn), ("up", self.up))))
