"""The errors: each one has its fields, copied, as attributes."""


def copied(value):
    """The value, with its lists, tuples and dicts made anew at every depth."""
    if isinstance(value, list):
        return [copied(part) for part in value]
    if isinstance(value, tuple):
        return tuple([copied(part) for part in value])
    if isinstance(value, dict):
        return {key: copied(value[key]) for key in value}
    return value


class ShedError(ValueError):
    """What all errors of this package are."""


class BadLetters(ShedError):
    """The value is no letters."""

    def __init__(self, letters):
        ShedError.__init__(self, f"{letters!r} is no string of 2 to 26 different small letters")
        self.letters = copied(letters)


class TooMany(ShedError):
    """There are more than there may be, or none where some must be."""

    def __init__(self, what, many, most):
        ShedError.__init__(self, f"{many!r} {what!s}, where {most!r} is the most")
        self.what = copied(what)
        self.many = copied(many)
        self.most = copied(most)


class BadRow(ShedError):
    """A row of a tree is wrong."""

    def __init__(self, number):
        ShedError.__init__(self, f"row {number!r} is no (place, value, flag), or its place stands before")
        self.number = copied(number)


class Lone(ShedError):
    """A place has no parent."""

    def __init__(self, place):
        ShedError.__init__(self, f"the parent of {place!r} is not there")
        self.place = copied(place)


class NoPlace(ShedError):
    """The place is not there."""

    def __init__(self, place):
        ShedError.__init__(self, f"{place!r} is no place that is there")
        self.place = copied(place)


class BadItem(ShedError):
    """A pair of a word and a value is wrong."""

    def __init__(self, number):
        ShedError.__init__(self, f"item {number!r} is no (word, value), or its word stands before")
        self.number = copied(number)


class BadKind(ShedError):
    """A kind of a rule is wrong."""

    def __init__(self, side, number):
        ShedError.__init__(self, f"kind {number!r} of {side!s} is no (kept, flag, children), or stands before")
        self.side = copied(side)
        self.number = copied(number)


class BadName(ShedError):
    """The value is no name, or none that is known."""

    def __init__(self, name):
        ShedError.__init__(self, f"{name!r} is no name that may stand here")
        self.name = copied(name)


class NotExact(ShedError):
    """The rule is not exact."""

    def __init__(self):
        ShedError.__init__(self, "the rule is not exact")


class BadSize(ShedError):
    """The size is wrong."""

    def __init__(self, size):
        ShedError.__init__(self, f"{size!r} is no size that may stand here")
        self.size = copied(size)


class BadValues(ShedError):
    """An element of a list of values is wrong."""

    def __init__(self, index):
        ShedError.__init__(self, f"element {index!r} is no value above the one before")
        self.index = copied(index)


class BadStatement(ShedError):
    """A statement of a routine is wrong."""

    def __init__(self, block, number):
        ShedError.__init__(self, f"statement {number!r} of {block!s} is wrong")
        self.block = copied(block)
        self.number = copied(number)


class BadText(ShedError):
    """A line of a routine's text is wrong."""

    def __init__(self, line):
        ShedError.__init__(self, f"line {line!r} is wrong")
        self.line = copied(line)


class BadCall(ShedError):
    """A call is wrong."""

    def __init__(self, number):
        ShedError.__init__(self, f"call {number!r} is wrong")
        self.number = copied(number)


class BadWord(ShedError):
    """The value is no word over the letters."""

    def __init__(self, number):
        ShedError.__init__(self, f"word {number!r} is no word over the letters")
        self.number = copied(number)


class BadValue(ShedError):
    """The value is no integer from 1 to 9."""

    def __init__(self, number):
        ShedError.__init__(self, f"value {number!r} is no integer from 1 to 9")
        self.number = copied(number)


class BadScript(ShedError):
    """An element of a script is wrong."""

    def __init__(self, script, index):
        ShedError.__init__(self, f"element {index!r} of script {script!s} is wrong")
        self.script = copied(script)
        self.index = copied(index)


class BadAspect(ShedError):
    """An element of the aspects is wrong."""

    def __init__(self, index):
        ShedError.__init__(self, f"element {index!r} is no aspect, or stands before")
        self.index = copied(index)


class BadWhere(ShedError):
    """A number or a kind of answer is wrong."""

    def __init__(self, number):
        ShedError.__init__(self, f"the kind of answer for {number!r} is wrong")
        self.number = copied(number)


class BadRelation(ShedError):
    """The value is no relation."""

    def __init__(self, relation):
        ShedError.__init__(self, f"{relation!r} is no relation")
        self.relation = copied(relation)


class NoNumber(ShedError):
    """There is no such number."""

    def __init__(self, number):
        ShedError.__init__(self, f"there is no number {number!r}")
        self.number = copied(number)


class InTheWay(ShedError):
    """A later deed is in the way."""

    def __init__(self, number):
        ShedError.__init__(self, f"deed {number!r} is in the way")
        self.number = copied(number)


class BadPlan(ShedError):
    """A field of a plan is wrong."""

    def __init__(self, field):
        ShedError.__init__(self, f"the field {field!s} is wrong")
        self.field = copied(field)


class OtherLetters(ShedError):
    """The trees have unlike letters."""

    def __init__(self):
        ShedError.__init__(self, "the trees have unlike letters")


class NoVersion(ShedError):
    """There is no such version."""

    def __init__(self, number):
        ShedError.__init__(self, f"there is no version {number!r}")
        self.number = copied(number)


class NoBranch(ShedError):
    """There is no such branch."""

    def __init__(self, name):
        ShedError.__init__(self, f"there is no branch {name!r}")
        self.name = copied(name)


class UsedName(ShedError):
    """A branch has this name."""

    def __init__(self, name):
        ShedError.__init__(self, f"there is a branch {name!r}")
        self.name = copied(name)


class NoDeed(ShedError):
    """There is no such deed."""

    def __init__(self, name):
        ShedError.__init__(self, f"there is no deed {name!r}")
        self.name = copied(name)


class BadDeed(ShedError):
    """A deed does not keep the rule."""

    def __init__(self, name):
        ShedError.__init__(self, f"the deed {name!r} does not keep the rule")
        self.name = copied(name)


class BrokenRule(ShedError):
    """The tree does not keep the rule."""

    def __init__(self):
        ShedError.__init__(self, "the tree does not keep the rule")


class BadRule(ShedError):
    """A rule of a grove is wrong."""

    def __init__(self, name):
        ShedError.__init__(self, f"the rule {name!r} is wrong")
        self.name = copied(name)


class Ring(ShedError):
    """A name of a grove stands below itself."""

    def __init__(self, name):
        ShedError.__init__(self, f"{name!r} stands below itself")
        self.name = copied(name)


class NoRule(ShedError):
    """The root is no name of a rule."""

    def __init__(self, root):
        ShedError.__init__(self, f"there is no rule {root!r}")
        self.root = copied(root)


class BadRank(ShedError):
    """There is no word of this rank."""

    def __init__(self, number):
        ShedError.__init__(self, f"there is no word of rank {number!r}")
        self.number = copied(number)


class UsedLabel(ShedError):
    """A hold has this label."""

    def __init__(self, label):
        ShedError.__init__(self, f"there is a hold {label!r}")
        self.label = copied(label)


class NoLabel(ShedError):
    """There is no such hold."""

    def __init__(self, label):
        ShedError.__init__(self, f"there is no hold {label!r}")
        self.label = copied(label)


class BadLog(ShedError):
    """A row of a log is wrong."""

    def __init__(self, index):
        ShedError.__init__(self, f"row {index!r} of the log is wrong")
        self.index = copied(index)
