"""What several of the tests use."""

import random
import time

from treeshed.errors import BadRow
from treeshed.rules import Rule
from treeshed.trees import Tree

ALPHABET = "abcdefghijklmnopqrstuvwxyz"
KINDS = [(kept, flag, children) for kept in (False, True) for flag in (False, True) for children in (0, 1, 2)]


def any_values():
    """Values of all sorts that the document calls "any value", made anew with each call."""
    deep = [1]
    for _ in range(9):
        deep = [deep]
    return [
        None, True, False, 0, 1, -1, 2, 10, 27, 10 ** 40, "", "a", "ab", "ba", "Ab", "plain ", "a b", "\u00e9\u00e8",
        (), [], {}, (1,), [1], ["a"], ["a", "b"], ("a", "b"), ("ab", 1), {"a": "b"}, {1: [2]}, {("a", 1): {"b": [()]}},
        (None, [True, {"a": (1, [2])}]), [["", None, False]], ("", None, False), [False, False, 0], deep, (deep,),
        Tree("ab", [("", None, False)]), Rule([], []), BadRow(1), [Tree("ab", [("", 1, True)])],
    ]


def alike(one, other):
    """Whether two values are equal, True and 1 being unlike, a tuple and a list too."""
    if type(one) is not type(other):
        return False
    if isinstance(one, (list, tuple)):
        return len(one) == len(other) and all(alike(*both) for both in zip(one, other))
    if isinstance(one, dict):
        return list(one) == list(other) and all(alike(one[key], other[key]) for key in one)
    return one == other


def tupled(value):
    """The value with its lists as tuples at every depth."""
    if isinstance(value, (list, tuple)):
        return tuple(tupled(part) for part in value)
    return {key: tupled(part) for key, part in value.items()} if isinstance(value, dict) else value


def check_raises(test, error, fields, call, *arguments):
    """Checks that the call raises just this error, with attributes of just these values."""
    with test.assertRaises(Exception) as caught:
        call(*arguments)
    raised = caught.exception
    if raised.__class__ is not error:
        test.fail(f"{raised!r} in the place of {error.__name__} for {arguments!r:.200}")
    for name, value in fields.items():
        test.assertTrue(alike(getattr(raised, name), value), f"{name} is {getattr(raised, name)!r:.200}")


def seconds_of(call, *arguments):
    """How long the call takes; what it raises is what it returns."""
    start = time.perf_counter()
    try:
        call(*arguments)
    except ValueError:
        pass
    return time.perf_counter() - start


def ranks(word, letters):
    """What Python orders as the letters order the word."""
    return [letters.index(letter) for letter in word]


def some_letters(source, many):
    """So many letters out of the whole alphabet, in any order."""
    return "".join(source.sample(ALPHABET, many))


def some_rows(source, letters, many):
    """Rows of a tree with so many places, each behind its parent, with any values and flags."""
    places = [""]
    there = {""}
    while len(places) < many:
        # From the last places often, so that there are long ways, too.
        near = places[-20:] if source.random() < 0.5 else places
        place = source.choice(near) + source.choice(letters)
        if place not in there and len(place) <= 200:
            places.append(place)
            there.add(place)
    return [(place, source.choice([None, 1, 5, 9]), source.random() < 0.5) for place in places]


def long_rows(letters):
    """2,000 rows with ten ways of almost 200 letters each."""
    rows = [("", None, False)]
    for start in letters[:10]:
        for length in range(1, 201):
            if len(rows) < 2000:
                rows.append((start + letters[-1] * (length - 1), length % 9 + 1, False))
    return rows


def shuffled(source, values):
    """The values in any order."""
    mixed = list(values)
    source.shuffle(mixed)
    return mixed


def seeded(number):
    """A source of chance that gives the same with each run."""
    return random.Random(number)
