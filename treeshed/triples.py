"""Cases of three parts, and how they follow from the cases of the parts below."""

from treeshed.casing import EMPTY, Caser, sum_with
from treeshed.errors import NoPlace
from treeshed.mixing import due_values
from treeshed.weaving import Weave, check_letters


def case_of(plan, rule, base, one, other, place):
    """The case of the parts that three trees have at a place, by merging them."""
    check_letters(base, one, other)
    trees = (base, one, other)
    there = tuple([tree.has(place) for tree in trees])
    if not any(there):
        raise NoPlace(place)
    weave = Weave(plan, base, one, other, place)
    values = values_below(trees, place)
    return there + (
        place not in weave.one_changed, place not in weave.other_changed,
        any([kept is not None and kept == first for kept, first, second in values]),
        any([kept is not None and kept == second for kept, first, second in values]),
        any([kept != first and kept != second for kept, first, second in values]),
        outcome_of(weave, rule, place))


def places_below(trees, top):
    """A list of all places of the parts that trees have at a place, each once."""
    places = {}
    for tree in trees:
        for row in tree.rows:
            if row[0].startswith(top):
                places[row[0]] = True
    return list(places)


def values_below(trees, top):
    """A list of the triples of the values that three trees have at the places of their parts at a place."""
    base, one, other = trees
    return [(base.value_of(place), one.value_of(place), other.value_of(place)) for place in places_below(trees, top)]


def outcome_of(weave, rule, top):
    """What a merge of the parts at a place has made of them."""
    if weave.first_clash() is not None:
        return "clash"
    if top not in weave.cells:
        return "none"
    base, one, other = weave.trees
    for place in places_below(weave.trees, top):
        value = weave.cells[place][0] if place in weave.cells else None
        if value not in due_values(base.value_of(place), one.value_of(place), other.value_of(place)):
            return "words"
    for place in weave.cells:
        value, flag = weave.cells[place]
        kind = (value is not None, flag, min(2, weave.children[place]))
        if kind not in (rule.root if place == "" else rule.others):
            return "rule"
    return "tree"


def empty_sum():
    """The sum of no cases."""
    return EMPTY


def added(total, case):
    """The sum with one case more."""
    return sum_with(total, case)


def closed(plan, rule, total, cells, root=False):
    """The case of three parts with these cells over this sum; None if there is none such."""
    caser = Caser(plan, rule)
    let = [caser.is_let(cell, children, root) for cell, children in zip(cells, total)]
    if not all(let) or not any([cell is not None for cell in cells]):
        return None
    return caser.case(total, cells, root)
