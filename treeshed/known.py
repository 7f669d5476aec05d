"""The routines of the known deeds, by their texts."""

from treeshed.routines import Routine

TEXTS = {
    "has": """turn:
    if at end and marked:
        return yes
    return no""",
    "get": """turn:
    if at end and marked:
        return value
    return no""",
    "put": """down:
    if not next:
        make
turn:
    if marked:
        return no
    mark
    return yes""",
    "begins": """turn:
    if not at end:
        return no
    if at root and not marked and others == 0:
        return no
    return yes""",
    "set": """down:
    if not next:
        make
turn:
    if own:
        return no
    mark
    return yes""",
    "strike": """turn:
    if not at end or not marked:
        return no
    unmark
    if at root or not others == 0:
        return yes
up:
    cut
    if at root or marked or not others == 0:
        return yes""",
    "longest": """down:
    if marked:
        keep
turn:
    if marked:
        keep
    return p""",
}


def known_routine(name):
    """The routine of the known deed of this name."""
    return Routine.read(TEXTS[name])
