"""Pairings of all ends: how many there are, which, and what is drawn by each."""

from math import factorial

from endsum.checks import is_number, is_pair
from endsum.drawings import Drawing, all_ends, check_places
from endsum.errors import NoPairing, TooMany

MOST_PAIRED_ENDS = 10


def count(stock, corners, legs):
    """How many pairings there are."""
    check_places(stock, corners, legs)
    sorts = [sort for place, sort in all_ends(stock, corners, legs)]
    total = 1
    for sort, partner in stock.sorts:
        if sort == partner:
            total = total * ways_alone(sorts.count(sort))
        elif sort < partner:
            total = total * ways_across(sorts.count(sort), sorts.count(partner))
    return total


def ways_alone(many):
    """In how many ways so many ends are paired among themselves."""
    if many % 2:
        return 0
    total = 1
    for odd in range(1, many, 2):
        total = total * odd
    return total


def ways_across(many, others):
    """In how many ways so many ends are paired with so many others."""
    if many != others:
        return 0
    return factorial(many)


def pairings(stock, corners, legs):
    """The sorted list of all pairings."""
    check_places(stock, corners, legs)
    ends = all_ends(stock, corners, legs)
    if len(ends) > MOST_PAIRED_ENDS:
        raise TooMany("pairings are told of at most ten ends")
    return _paired(stock, ends, list(range(len(ends))))


def _paired(stock, ends, numbers):
    """The sorted list of all ways to pair the ends of these numbers."""
    if not numbers:
        return [[]]
    first = numbers[0]
    found = []
    for other in numbers[1:]:
        if _are_partners(stock, ends, first, other):
            left = [number for number in numbers if number not in (first, other)]
            found.extend([[(first, other), *rest] for rest in _paired(stock, ends, left)])
    return found


def _are_partners(stock, ends, first, other):
    """Whether the sorts of the ends of two numbers are partners."""
    return (ends[first][1], ends[other][1]) in stock.sorts


def drawing_of(stock, corners, legs, pairing):
    """The drawing in which just the ends of a pairing are joined."""
    check_places(stock, corners, legs)
    ends = all_ends(stock, corners, legs)
    if not _is_pairing(stock, ends, pairing):
        raise NoPairing("a pairing is a sorted list that pairs each end with a partner, just once")
    return Drawing(stock, corners, legs, sorted([ends[first] + ends[other] for first, other in pairing]))


def _is_pairing(stock, ends, pairing):
    """Whether this pairs all these ends."""
    if not isinstance(pairing, list) or not all([_is_rising_pair(pair) for pair in pairing]):
        return False
    numbers = sorted([number for pair in pairing for number in pair])
    if numbers != list(range(len(ends))) or pairing != sorted(pairing):
        return False
    return all([_are_partners(stock, ends, first, other) for first, other in pairing])


def _is_rising_pair(pair):
    """Whether this is a tuple of two whole numbers, the lesser one first."""
    if not is_pair(pair) or not is_number(pair[0]) or not is_number(pair[1]):
        return False
    return pair[0] < pair[1]


def group(stock, corners):
    """How many ways there are to change corners of a kind, and ends of a sort at a corner, about."""
    check_places(stock, corners, [])
    total = 1
    for kind, ends in stock.kinds:
        many = corners.count(kind)
        total = total * factorial(many)
        for sort, partner in stock.sorts:
            for _ in range(many):
                total = total * factorial(ends.count(sort))
    return total
