"""Doing the blocks of a routine at one place."""


class Spot:
    """What a call meets at a place, and what it leaves there; blocks change it."""

    def __init__(self, value, flag, root, ends, there, others, own):
        self.value = value
        self.flag = flag
        self.root = root
        self.ends = ends
        # Whether there is a next child.
        self.there = there
        self.others = others
        self.own = own
        self.kept = False
        # None as long as the block goes on, "stop", what is returned, or what a misuse tells.
        self.ending = None


def holds(test, spot):
    """Whether a test holds at a place."""
    head = test[0]
    if head == "not":
        return not holds(test[1], spot)
    if head == "and":
        return holds(test[1], spot) and holds(test[2], spot)
    if head == "or":
        return holds(test[1], spot) or holds(test[2], spot)
    if head == "mark":
        return spot.value is not None
    if head == "own":
        return spot.value == spot.own
    if head == "flag":
        return spot.flag
    if head == "root":
        return spot.root
    if head == "ends":
        return spot.ends
    if head == "next":
        return spot.there
    if head == "others":
        return spot.others == test[1]
    return True


def do_block(block, spot):
    """Does the statements of a block, until one ends it."""
    for statement in block:
        if statement[0] == "if":
            do_block(statement[2] if holds(statement[1], spot) else statement[3], spot)
        else:
            do_statement(statement, spot)
        if spot.ending is not None:
            return


def do_statement(statement, spot):
    """Does a statement without blocks."""
    head = statement[0]
    if head == "mark":
        spot.value = spot.own
    elif head == "unmark":
        spot.value = None
    elif head == "flag":
        spot.flag = statement[1]
    elif head == "keep":
        spot.kept = True
    elif head == "stop":
        spot.ending = "stop"
    elif head == "return":
        spot.ending = statement[1]
    elif head == "make":
        make_next(spot)
    else:
        cut_next(spot)


def make_next(spot):
    """Makes the next child, or ends with a misuse."""
    if spot.there:
        spot.ending = "there"
    spot.there = True


def cut_next(spot):
    """Takes off the next child, or ends with a misuse."""
    if not spot.there:
        spot.ending = "none"
    spot.there = False


def arrive(routine, spot):
    """Does down, and turn if the call does not go on; tells whether it goes to the next child."""
    if not spot.ends:
        do_block(routine.down, spot)
        if spot.ending is None and spot.there:
            return True
        if spot.ending == "stop":
            spot.ending = None
    if spot.ending is None:
        do_block(routine.turn, spot)
    return False
