"""All drawings with given corners and legs, each just once up to likeness, and their sum."""

from itertools import permutations

from endsum.drawings import Drawing, all_ends, check_places
from endsum.errors import TooMany
from endsum.pairings import count, group
from endsum.ratios import in_lowest_terms

MOST_LISTED_ENDS = 12


def drawings(stock, corners, legs):
    """The least drawings with these legs and corners, sorted by their joins."""
    check_places(stock, corners, legs)
    placed = sorted(corners)
    ends = all_ends(stock, placed, legs)
    if len(ends) > MOST_LISTED_ENDS:
        raise TooMany("drawings are told of at most twelve ends")
    spots = sorted(set(ends))
    numbers = _join_numbers(stock, spots)
    joins = {numbers[pair]: spots[pair[0]] + spots[pair[1]] for pair in numbers}
    rows = _rows(numbers, [ends.count(spot) for spot in spots], 0)
    return [Drawing(stock, placed, legs, [joins[number] for number in row])
            for row in _first_ones(rows, _moves(numbers, spots, placed))]


def _join_numbers(stock, spots):
    """For each two spots (place, sort) that may be joined the number of their join, in order."""
    pairs = [(at, to) for at in range(len(spots)) for to in range(at, len(spots))
             if (spots[at][1], spots[to][1]) in stock.sorts]
    return {pair: number for number, pair in enumerate(pairs)}


def _rows(numbers, left, lowest):
    """All rising tuples of join numbers that use up the ends left at each spot, sorted.

    The first join goes to no spot below the lowest one: so equal ends of a
    spot are joined in one order only.
    """
    at = 0
    while at < len(left) and left[at] == 0:
        at += 1
    if at == len(left):
        return [()]
    found = []
    for to in range(max(at, lowest), len(left)):
        after = list(left)
        after[at] -= 1
        after[to] -= 1
        if (at, to) in numbers and after[to] >= 0:
            rest = _rows(numbers, after, to if after[at] else 0)
            found.extend([(numbers[(at, to)], *row) for row in rest])
    return found


def _moves(numbers, spots, corners):
    """For each renaming of corners within their kinds: the number that each join becomes."""
    maps = [()]
    for kind in sorted(set(corners)):
        fit = [at for at, corner in enumerate(corners) if corner == kind]
        maps = [(*head, *tail) for head in maps for tail in permutations(fit)]
    return [_moved_numbers(numbers, spots, places) for places in maps]


def _moved_numbers(numbers, spots, places):
    """The number that each join becomes where the corners get these places."""
    many = len(places)
    found = {spot: at for at, spot in enumerate(spots)}
    goals = [found[(places[place] if place < many else place, sort)] for place, sort in spots]
    return [numbers[(min(goals[at], goals[to]), max(goals[at], goals[to]))] for at, to in numbers]


def _first_ones(rows, moves):
    """Those of sorted rows that no move leads to from an earlier one."""
    first_ones = []
    seen = set()
    for row in rows:
        if row not in seen:
            first_ones.append(row)
            for move in moves:
                seen.add(tuple(sorted([move[number] for number in row])))
    return first_ones


def sum_all(stock, corners, legs):
    """The sum of 1 / turns over all these drawings, of however many ends."""
    return in_lowest_terms(count(stock, corners, legs), group(stock, corners))
