"""Trees of inner joins, counted and summed by their numbers, and rings."""

from endsum.checks import is_number
from endsum.errors import NoNumbers
from endsum.parts import hanging, inner_joins


def tree_count(drawing):
    """How many trees there are."""
    # With 1 for each join every tree comes to 1.
    return _sum_over_trees(drawing, [1] * len(inner_joins(drawing)))


def rings(drawing):
    """How many inner joins there are beyond those that it takes to hang corners together."""
    inner = inner_joins(drawing)
    many = len(drawing.corners)
    return len(inner) - many + len(hanging(many, inner))


def tree_sum(drawing, numbers):
    """The sum, over all trees, of the product of the numbers of the joins outside."""
    if not _are_numbers(numbers, len(inner_joins(drawing))):
        raise NoNumbers("a list with a whole number for each inner join is wanted")
    return _sum_over_trees(drawing, numbers)


def _are_numbers(numbers, many):
    """Whether this is a list of so many whole numbers."""
    if not isinstance(numbers, list) or len(numbers) != many:
        return False
    return all([is_number(number) for number in numbers])


def _sum_over_trees(drawing, numbers):
    """The sum over all trees, reckoned corner by corner as each join is taken or left.

    sums has for each way in which the corners that are still to be passed
    may hang together the sum of all that leads there. A way tells for each
    of them the last corner that it hangs together with.
    """
    many = len(drawing.corners)
    inner = inner_joins(drawing)
    sums = {tuple(range(many)): 1}
    for at in range(many):
        for join, number in zip(inner, numbers):
            if join[0] == at:
                sums = _taken_or_left(sums, join[2] - at, number)
        if at < many - 1:
            sums = _passed(sums, at)
    return sum(sums.values())


def _taken_or_left(sums, to, number):
    """The sums behind a join of the first corner of the ways with another one, or with itself."""
    after = {}
    for way, total in sums.items():
        after[way] = after.get(way, 0) + number * total
        # One that joins what hangs together already can't be taken.
        if way[0] != way[to]:
            gone, kept = min(way[0], way[to]), max(way[0], way[to])
            met = tuple([kept if last == gone else last for last in way])
            after[met] = after.get(met, 0) + total
    return after


def _passed(sums, at):
    """The sums without the first corner of the ways, of those in which it hangs together with another."""
    after = {}
    for way, total in sums.items():
        if way[0] != at:
            after[way[1:]] = after.get(way[1:], 0) + total
    return after
