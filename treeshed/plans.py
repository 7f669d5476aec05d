"""Plans: how three trees are merged."""

from treeshed.errors import BadName, BadPlan
from treeshed.rules import flags_of

GONE = ("clash", "kept", "bare", "base")
ALIKE = ("take", "clash")
UNLIKE = ("clash", "one", "other")
# For all of (root, kept, children).
FLAG_KEYS = (
    (False, False, 0), (False, False, 1), (False, False, 2), (False, True, 0), (False, True, 1), (False, True, 2),
    (True, False, 0), (True, False, 1), (True, False, 2), (True, True, 0), (True, True, 1), (True, True, 2),
)


class Plan:
    """How three trees are merged; it does not change."""

    def __init__(self, gone, alike, unlike, tidy, flags=None):
        if not is_one_of(gone, GONE):
            raise BadPlan("gone")
        if not is_one_of(alike, ALIKE):
            raise BadPlan("alike")
        if not is_one_of(unlike, UNLIKE):
            raise BadPlan("unlike")
        if not isinstance(tidy, bool):
            raise BadPlan("tidy")
        if flags is not None and not are_flags(flags):
            raise BadPlan("flags")
        self.gone = gone
        self.alike = alike
        self.unlike = unlike
        self.tidy = tidy
        self._told_flags = None if flags is None else tuple([(key, flags[key]) for key in FLAG_KEYS])

    def __eq__(self, other):
        return (
            isinstance(other, Plan) and self.gone == other.gone and self.alike == other.alike
            and self.unlike == other.unlike and self.tidy == other.tidy
            and self._told_flags == other._told_flags)

    @property
    def flags(self):
        """None, or a new dict of the flags."""
        return None if self._told_flags is None else {key: flag for key, flag in self._told_flags}


def is_one_of(value, words):
    """Whether any value is one of these words."""
    return isinstance(value, str) and value in words


def are_flags(value):
    """Whether any value is a dict from just the twelve keys to bools."""
    if not isinstance(value, dict) or len(value) != len(FLAG_KEYS):
        return False
    return all([key in value and isinstance(value[key], bool) for key in FLAG_KEYS])


def known_plan(name):
    """The plan that is known by this name."""
    if name == "sets":
        return Plan("bare", "take", "clash", True)
    if name == "careful":
        return Plan("clash", "clash", "clash", True)
    if name == "late":
        return Plan("bare", "take", "other", True)
    if name == "back":
        return Plan("base", "take", "one", False)
    raise BadName(name)


def with_flags(plan, rule):
    """The plan with the flags of an exact rule in the place of its own."""
    return Plan(plan.gone, plan.alike, plan.unlike, plan.tidy, flags_of(rule))
