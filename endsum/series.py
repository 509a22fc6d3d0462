"""Sums of 1 / turns over all drawings, over the whole and over the free ones, without any drawing."""

from math import factorial

from endsum.checks import is_number
from endsum.drawings import MOST_CORNERS, check_places
from endsum.errors import NoCounts
from endsum.frees import Frees
from endsum.lists import sum_all
from endsum.pairings import group
from endsum.ratios import in_lowest_terms
from endsum.tallies import below, mark_of, marks_within
from endsum.wholes import whole_tallies


def all_sums(stock, most, legs):
    """For all counts up to most, sorted, the sum over all drawings."""
    _check(stock, most, legs)
    return [(counts, sum_all(stock, _corners(stock, counts), legs)) for counts in below(most)]


def whole_sums(stock, most, legs):
    """For all counts up to most, sorted, the sum over the whole drawings."""
    _check(stock, most, legs)
    numbers = _open_ends(stock, legs)
    fits = [marks_within(numbers, 0)] * (sum(most) + 1)
    wholes = whole_tallies(stock, most, fits)
    nothing, *others = below(most)
    # Without a corner, just two legs that are joined are whole.
    sums = [(nothing, sum_all(stock, [], legs) if len(legs) == 2 else (0, 1))]
    for counts in others:
        ways = wholes[counts].get(mark_of(numbers), 0)
        sums.append((counts, _sum_of(stock, counts, numbers, ways)))
    return sums


def free_sums(stock, most, legs):
    """For all counts up to most, sorted, the sum over the free drawings."""
    _check(stock, most, legs)
    numbers = _open_ends(stock, legs)
    frees = Frees(stock, most, numbers)
    return [(counts, _sum_of(stock, counts, numbers, frees.ways(counts))) for counts in below(most)]


def _check(stock, most, legs):
    """Refuse what is no number of corners for each kind, then what is no list of legs."""
    if not _are_counts(stock, most):
        raise NoCounts("a number from 0 on is wanted for each kind, at most six in all")
    check_places(stock, [], legs)


def _are_counts(stock, most):
    """Whether this is a tuple with a number from 0 on for each kind, at most six in all."""
    if not isinstance(most, tuple) or len(most) != len(stock.kinds):
        return False
    if not all([is_number(number) and number >= 0 for number in most]):
        return False
    return sum(most) <= MOST_CORNERS


def _corners(stock, counts):
    """So many corners of each kind."""
    corners = []
    for (kind, ends), number in zip(stock.kinds, counts):
        corners.extend([kind] * number)
    return corners


def _open_ends(stock, legs):
    """For each sort how many ends stay open for the legs: each has the leg's partner."""
    sorts = [leg[1] for leg in legs]
    return [sorts.count(partner) for sort, partner in stock.sorts]


def _sum_of(stock, counts, numbers, ways):
    """The sum over the drawings that come by so many ways, with so many open ends of each sort."""
    for number in numbers:
        # The ends of a sort that stay open get their legs in any order.
        ways = ways * factorial(number)
    return in_lowest_terms(ways, group(stock, _corners(stock, counts)))
