"""Tallies: in how many ways the ends of corners are paired, where some of them stay open.

Corners and ends are told apart here, also those that are alike. A mark is one
number that tells how many ends of each sort stay open: marks are added where
things come together. A tally is a dict from marks to numbers of ways.
"""

from math import comb

from endsum.pairings import ways_across, ways_alone

# Six corners have at most thirty ends, so the sum of two marks never runs over
# into the next sort.
MARK_BITS = 6
MARK_LIMIT = 64


def mark_of(numbers):
    """The mark of so many open ends of each sort."""
    return sum([number << (MARK_BITS * at) for at, number in enumerate(numbers)])


def mark_of_one(at):
    """The mark of one open end, of the sort at this place."""
    return 1 << (MARK_BITS * at)


def open_ends(mark, at):
    """How many open ends of the sort at this place a mark tells."""
    return (mark >> (MARK_BITS * at)) % MARK_LIMIT


def marks_within(numbers, more):
    """A dict with the marks of up to so many open ends of each sort, and of so many more in all."""
    rows = [(0, 0)]
    for at, number in enumerate(numbers):
        rows = [(mark + (many << (MARK_BITS * at)), beyond + max(0, many - number))
                for mark, beyond in rows for many in range(number + more + 1)]
    return {mark: True for mark, beyond in rows if beyond <= more}


def add_product(tally, times, one, other, fit):
    """Add to a tally, so many times, two others' ways side by side, as far as the marks fit."""
    for mark, ways in one.items():
        for other_mark, other_ways in other.items():
            both = mark + other_mark
            if both in fit:
                tally[both] = tally.get(both, 0) + times * ways * other_ways


def taken_out(tally, at):
    """The tally of all ways to take one open end out, of the sort at this place."""
    found = {}
    for mark, ways in tally.items():
        many = open_ends(mark, at)
        if many > 0:
            found[mark - mark_of_one(at)] = many * ways
    return found


def below(counts):
    """The sorted list of all counts none of which is above these, from nothing to all."""
    rows = [()]
    for most in counts:
        rows = [(*row, number) for row in rows for number in range(most + 1)]
    return rows


def without(counts, part):
    """What is left of these counts."""
    return tuple([number - taken for number, taken in zip(counts, part)])


def but_the_first(counts):
    """The counts of all corners but the first one."""
    at = 0
    while counts[at] == 0:
        at += 1
    return (*counts[:at], counts[at] - 1, *counts[at + 1:])


def choices(counts, part):
    """In how many ways a part can be chosen of so many corners of each kind."""
    total = 1
    for number, taken in zip(counts, part):
        total = total * comb(number, taken)
    return total


def paired(stock, counts, fit):
    """The tally of all ways to pair ends of so many corners of each kind, as far as the marks fit."""
    sorts = [row[0] for row in stock.sorts]
    numbers = [_number_of_ends(stock, counts, sort) for sort in sorts]
    tally = {0: 1}
    for at, row in enumerate(stock.sorts):
        to = sorts.index(row[1])
        # Two sorts that are partners are paired once, where the first one stands.
        if at <= to:
            added = _alone(numbers, at) if at == to else _across(numbers, at, to)
            product = {}
            add_product(product, 1, tally, added, fit)
            tally = product
    return tally


def _number_of_ends(stock, counts, sort):
    """How many ends of a sort so many corners of each kind have."""
    return sum([many * kind[1].count(sort) for many, kind in zip(counts, stock.kinds)])


def _alone(numbers, at):
    """The tally of all ways to pair ends of a sort that is its own partner."""
    many = numbers[at]
    return {left << (MARK_BITS * at): comb(many, left) * ways_alone(many - left)
            for left in range(many % 2, many + 1, 2)}


def _across(numbers, at, to):
    """The tally of all ways to pair ends of two sorts that are partners."""
    tally = {}
    for joined in range(min(numbers[at], numbers[to]) + 1):
        left, other_left = numbers[at] - joined, numbers[to] - joined
        mark = (left << (MARK_BITS * at)) + (other_left << (MARK_BITS * to))
        chosen = comb(numbers[at], joined) * comb(numbers[to], joined)
        tally[mark] = chosen * ways_across(joined, joined)
    return tally
