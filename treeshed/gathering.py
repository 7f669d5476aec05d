"""Gathering all cases and sums that come up for a plan and a rule, each with the fewest places that have it."""

from heapq import heappop, heappush

from treeshed.casing import EMPTY, Caser, sum_with
from treeshed.errors import TooMany
from treeshed.trees import Tree

MOST_SUMS = 2000
# No sum takes more cases: each one changes it, and it can be changed so often.
LETTERS = "abcdefghijklmnop"


def check_sums(many):
    """Raises TooMany if there are too many sums."""
    if many > MOST_SUMS:
        raise TooMany("sums", MOST_SUMS + 1, MOST_SUMS)


def all_sums(cases):
    """A list of all sums of these cases, each any number of times."""
    found = {EMPTY: True}
    waiting = [EMPTY]
    while waiting:
        total = waiting.pop()
        for case in cases:
            more = sum_with(total, case)
            if more not in found:
                found[more] = True
                check_sums(len(found))
                waiting.append(more)
    return list(found)


class Item:
    """A case or a sum, with how many places it takes, and from what it comes."""

    def __init__(self, is_case, told, places, total, beside):
        self.is_case = is_case
        self.told = told
        self.places = places
        # A case comes from a sum and the three cells beside it, a sum from another one and a case.
        self.total = total
        self.beside = beside


class Gathering:
    """The cases and the sums, found least first."""

    def __init__(self, plan, rule):
        self.caser = Caser(plan, rule)
        self.cases = []
        self.sums = []
        self.least = {}
        self.sum_count = 1
        self.offers = []
        self.waiting = []
        self.offer(False, EMPTY, 0, None, None)
        while self.waiting:
            item = self.offers[heappop(self.waiting)[1]]
            if self.least[item.told] == item.places:
                self.take(item)

    def offer(self, is_case, told, places, total, beside):
        """Takes a case or a sum to look at, unless it is known with as few places."""
        if told in self.least:
            if self.least[told] <= places:
                return
        elif not is_case and told != EMPTY:
            self.sum_count += 1
            check_sums(self.sum_count)
        self.least[told] = places
        heappush(self.waiting, (places, len(self.offers)))
        self.offers.append(Item(is_case, told, places, total, beside))

    def take(self, item):
        """Takes a case or a sum that no fewer places have, and offers what comes from it."""
        if item.is_case:
            self.cases.append(item)
            for total in self.sums:
                self.offer_sum(total, item)
        else:
            self.sums.append(item)
            for case in self.cases:
                self.offer_sum(item, case)
            for cells in self.caser.cells_over(item.told, False):
                case = self.caser.case(item.told, cells, False)
                self.offer(True, case, item.places + 3 - cells.count(None), item, cells)

    def offer_sum(self, total, case):
        """Offers a sum with one case more."""
        self.offer(False, sum_with(total.told, case.told), total.places + case.places, total, case)

    def least_root(self, is_asked):
        """The least root whose case is asked for, as a case at another place is told; None if there is none."""
        for item in self.sums:
            for cells in self.caser.cells_over(item.told, True):
                case = self.caser.case(item.told, cells, True)
                if is_asked(case):
                    return Item(True, case, item.places + 3, item, cells)
        return None


def cases_of(total):
    """A list of the cases of which a sum is made."""
    found = []
    while total.beside is not None:
        found.append(total.beside)
        total = total.total
    return found


def three_trees(root):
    """A list of base, one and other with this case at their roots."""
    rows = [[], [], []]
    waiting = [("", root)]
    while waiting:
        place, item = waiting.pop()
        for which, cell in enumerate(item.beside):
            if cell is not None:
                rows[which].append((place,) + cell)
        waiting.extend([(place + letter, case) for letter, case in zip(LETTERS, cases_of(item.total))])
    return [Tree(LETTERS, told) for told in rows]
