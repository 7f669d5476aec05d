"""Rules of groves: names that stand for parts."""

from treeshed.errors import BadLetters, BadRule, NoRule, Ring, TooMany
from treeshed.words import LONGEST_WORD, is_letters, is_value

CAPITALS = "ABCDEFGHIJKLMNOPQRSTUVWXYZ"
LONGEST_NAME = 8
MOST_RULES = 1000


def is_part_name(value):
    """Whether any value is a string of 1 to 8 capital letters."""
    if not isinstance(value, str) or not 1 <= len(value) <= LONGEST_NAME:
        return False
    return all([letter in CAPITALS for letter in value])


def is_part_rule(value, letters, rules):
    """Whether any value is a triple of a value or None, a flag, and a dict from letters to names of rules."""
    if not isinstance(value, (tuple, list)) or len(value) != 3:
        return False
    kept, flag, parts = value
    if not (kept is None or is_value(kept)) or not isinstance(flag, bool) or not isinstance(parts, dict):
        return False
    return all([
        isinstance(letter, str) and len(letter) == 1 and letter in letters
        and is_part_name(parts[letter]) and parts[letter] in rules for letter in parts])


def check_rules(letters, rules, root):
    """Raises an error if these are no letters and rules of a grove; a list of the names below the root, lower first."""
    if not is_letters(letters):
        raise BadLetters(letters)
    if not 1 <= len(rules) <= MOST_RULES:
        raise TooMany("rules", len(rules), MOST_RULES)
    for name in rules:
        if not is_part_name(name) or not is_part_rule(rules[name], letters, rules):
            raise BadRule(name)
    order = names_lower_first(rules)
    if len(order) < len(rules):
        raise Ring(first_on_ring(rules, [name for name in rules if name not in order]))
    if not isinstance(root, str) or root not in rules:
        raise NoRule(root)
    needed = names_below(rules, [root])
    return [name for name in order if name in needed]


def names_lower_first(rules):
    """A dict of the names, each behind all that stand below it; without those on rings, or above one."""
    above = {name: [] for name in rules}
    many = {}
    for name in rules:
        parts = sorted(set(list(rules[name][2].values())))
        many[name] = len(parts)
        for part in parts:
            above[part].append(name)
    found = {}
    waiting = [name for name in rules if many[name] == 0]
    while waiting:
        lower = waiting.pop()
        found[lower] = True
        for name in above[lower]:
            many[name] -= 1
            if many[name] == 0:
                waiting.append(name)
    return found


def names_below(rules, tops):
    """A dict of these names and all that stand below them."""
    found = {}
    waiting = list(tops)
    while waiting:
        name = waiting.pop()
        if name not in found:
            found[name] = True
            waiting.extend(list(rules[name][2].values()))
    return found


def first_on_ring(rules, names):
    """The first of these names, ascending, that stands below itself; no other name does."""
    ascending = sorted(names)
    number_of = {name: number for number, name in enumerate(ascending)}
    # For each name the numbers of those below it, as bits: first the ones right below, then those over each name.
    reach = []
    for name in ascending:
        numbers = [number_of[part] for part in sorted(set(list(rules[name][2].values()))) if part in number_of]
        reach.append(sum([1 << number for number in numbers]))
    for over in range(len(ascending)):
        through = reach[over]
        reach = [bits | through if bits >> over & 1 else bits for bits in reach]
    return [name for number, name in enumerate(ascending) if reach[number] >> number & 1][0]


def check_height(rules, order):
    """Raises TooMany if the tree of the last of these names, which stand lower first, has too long a place."""
    height_of = {}
    for name in order:
        height_of[name] = max([1 + height_of[part] for part in list(rules[name][2].values())], default=0)
    if height_of[order[-1]] > LONGEST_WORD:
        raise TooMany("letters", height_of[order[-1]], LONGEST_WORD)


def free_names(many, used):
    """A list of so many names that are none of the used ones."""
    found = []
    number = 0
    while len(found) < many:
        name = name_of(number)
        if name not in used:
            found.append(name)
        number += 1
    return found


def name_of(number):
    """The name of this number: A to Z, then AA and so on."""
    name = CAPITALS[number % len(CAPITALS)]
    number = number // len(CAPITALS)
    while number > 0:
        number -= 1
        name = CAPITALS[number % len(CAPITALS)] + name
        number = number // len(CAPITALS)
    return name
