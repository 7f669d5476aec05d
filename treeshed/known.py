"""The routines of the known deeds, by their texts."""

from treeshed.routines import Routine

TEXTS = {
    "has": """turn:
    if at end and marked:
        return yes
    return no""",
    "get": """turn:
    if at end and marked:
        return value
    return no""",
    "put": """down:
    if not next:
        make
turn:
    if marked:
        return no
    mark
    return yes""",
    "begins": """turn:
    if not at end:
        return no
    if at root and not marked and others == 0:
        return no
    return yes""",
    "set": """down:
    if not next:
        make
turn:
    if own:
        return no
    mark
    return yes""",
    "strike": """turn:
    if not at end or not marked:
        return no
    unmark
    if at root or not others == 0:
        return yes
up:
    cut
    if at root or marked or not others == 0:
        return yes""",
    "longest": """down:
    if marked:
        keep
turn:
    if marked:
        keep
    return p""",
}

# What the deeds of the known book answer with one word, and whether the other way round they answer and leave the
# same: with alike values, and with unlike ones (None where these answers do not come up). Told, not worked out,
# because books are asked for often.
SAME_WORD = (
    ("has", "no", "has", "no", True, True), ("has", "yes", "has", "yes", True, True),
    ("has", "no", "get", "no", True, True), ("has", "yes", "get", "is", True, True),
    ("has", "no", "put", "yes", False, False), ("has", "yes", "put", "no", True, True),
    ("has", "no", "set", "yes", False, False), ("has", "yes", "set", "no", True, True),
    ("has", "yes", "set", "yes", True, True), ("has", "no", "strike", "no", True, True),
    ("has", "yes", "strike", "yes", False, False), ("get", "no", "has", "no", True, True),
    ("get", "is", "has", "yes", True, True), ("get", "no", "get", "no", True, True),
    ("get", "is", "get", "is", True, True), ("get", "no", "put", "yes", False, False),
    ("get", "is", "put", "no", True, True), ("get", "no", "set", "yes", False, False),
    ("get", "is", "set", "no", True, True), ("get", "is", "set", "yes", False, False),
    ("get", "no", "strike", "no", True, True), ("get", "is", "strike", "yes", False, False),
    ("put", "yes", "has", "yes", False, False), ("put", "no", "has", "yes", True, True),
    ("put", "yes", "get", "is", False, False), ("put", "no", "get", "is", True, True),
    ("put", "yes", "put", "no", False, False), ("put", "no", "put", "no", True, True),
    ("put", "yes", "set", "no", False, None), ("put", "no", "set", "no", True, True),
    ("put", "no", "set", "yes", True, True), ("put", "yes", "set", "yes", None, False),
    ("put", "yes", "strike", "yes", False, False), ("put", "no", "strike", "yes", False, False),
    ("set", "yes", "has", "yes", False, False), ("set", "no", "has", "yes", True, True),
    ("set", "yes", "get", "is", False, False), ("set", "no", "get", "is", True, True),
    ("set", "yes", "put", "no", False, False), ("set", "no", "put", "no", True, True),
    ("set", "yes", "set", "no", False, None), ("set", "no", "set", "no", True, None),
    ("set", "yes", "set", "yes", None, False), ("set", "no", "set", "yes", None, False),
    ("set", "yes", "strike", "yes", False, False), ("set", "no", "strike", "yes", False, False),
    ("strike", "no", "has", "no", True, True), ("strike", "yes", "has", "no", False, False),
    ("strike", "no", "get", "no", True, True), ("strike", "yes", "get", "no", False, False),
    ("strike", "no", "put", "yes", False, False), ("strike", "yes", "put", "yes", False, False),
    ("strike", "no", "set", "yes", False, False), ("strike", "yes", "set", "yes", False, False),
    ("strike", "no", "strike", "no", True, True), ("strike", "yes", "strike", "no", False, False),
)


def known_routine(name):
    """The routine of the known deed of this name."""
    return Routine.read(TEXTS[name])
