"""Stocks: the sorts of ends with their partners, and the kinds of corners."""

from endsum.checks import are_unlike, is_list, is_name, is_pair
from endsum.errors import NoStock

MOST_SORTS = 3
MOST_KINDS = 4
MOST_ENDS = 5


class Stock:
    """Sorts, each with its partner, and kinds, each with its ends."""

    def __init__(self, sorts, kinds):
        if not _are_sorts(sorts):
            raise NoStock("sorts")
        if not _are_kinds(kinds, dict(sorts)):
            raise NoStock("kinds")
        self.sorts = list(sorts)
        self.kinds = list(kinds)

    def __eq__(self, other):
        return isinstance(other, Stock) and self.sorts == other.sorts and self.kinds == other.kinds


def _are_sorts(sorts):
    """Whether these are sorts, each one the partner of its partner."""
    if not is_list(sorts, 1, MOST_SORTS):
        return False
    if not all([is_pair(row) and is_name(row[0]) and is_name(row[1]) for row in sorts]):
        return False
    partners = dict(sorts)
    if len(partners) < len(sorts):
        return False
    return all([partners.get(partners[sort]) == sort for sort in partners])


def _are_kinds(kinds, partners):
    """Whether these are kinds of unlike names, with ends of these sorts."""
    if not is_list(kinds, 1, MOST_KINDS):
        return False
    if not all([_is_kind(row, partners) for row in kinds]):
        return False
    return are_unlike([row[0] for row in kinds])


def _is_kind(row, partners):
    """Whether this is a name with a tuple of ends."""
    return is_pair(row) and is_name(row[0]) and _are_ends(row[1], partners)


def _are_ends(ends, partners):
    """Whether these are ends of these sorts, sorted."""
    if not isinstance(ends, tuple) or not 1 <= len(ends) <= MOST_ENDS:
        return False
    if not all([is_name(sort) and sort in partners for sort in ends]):
        return False
    return list(ends) == sorted(ends)
