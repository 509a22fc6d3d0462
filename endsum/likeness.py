"""Likeness: which renamings lead from drawing to drawing, and how many turns there are."""

from endsum.drawings import renamed
from endsum.errors import NoMatch


def alike(one, other):
    """A renaming by which one becomes other, or None."""
    if one.stock != other.stock:
        raise NoMatch("the stocks are not equal")
    there = _leads(one)[0]
    back = _leads(other)[0]
    if renamed(one, there) != renamed(other, back):
        return None
    return _one_by_one(there, _turned_back(back))


def least(drawing):
    """Of all renamed drawings the one with the least corners, then the least joins."""
    return renamed(drawing, _leads(drawing)[0])


def keepers(drawing):
    """The sorted list of all renamings by which the drawing stays equal."""
    leads = _leads(drawing)
    back = _turned_back(leads[0])
    return sorted([_one_by_one(lead, back) for lead in leads])


def turns(drawing):
    """How many ways there are to change corners and ends about so that it stays."""
    total = len(keepers(drawing))
    stood = {}
    for join in drawing.joins:
        stood[join] = stood.get(join, 0) + 1
        total = total * stood[join]
        if join[:2] == join[2:]:
            total = total * 2
    return total


def _turned_back(numbers):
    """The renaming that undoes this one."""
    return tuple([numbers.index(at) for at in range(len(numbers))])


def _one_by_one(first, second):
    """The renaming that is first and then second."""
    return tuple([second[number] for number in first])


def _leads(drawing):
    """All renamings by which the drawing becomes its least one.

    An order tells the corners that get the numbers 0, 1, .. so far. What is
    sure of the joins by then decides: an order whose start is greater than
    another one's can't lead to the least drawing any more.
    """
    links = _links(drawing)
    orders = [()]
    for kind in sorted(drawing.corners):
        fit = [at for at, corner in enumerate(drawing.corners) if corner == kind]
        orders = [(*order, at) for order in orders for at in fit if at not in order]
        starts = [_start(links, order) for order in orders]
        low = min(starts)
        orders = [order for order, start in zip(orders, starts) if start == low]
    return [_turned_back(order) for order in orders]


def _links(drawing):
    """For each corner all (sort, place, sort) from an end of it to the joined end."""
    many = len(drawing.corners)
    links = [[] for corner in drawing.corners]
    for at, sort, to, partner in drawing.joins:
        if at < many:
            links[at].append((sort, to, partner))
        if at < to < many:
            links[to].append((partner, at, sort))
    return links


def _start(links, order):
    """The sorted joins of numbered corners, up to the first that is not yet sure."""
    numbers = {at: number for number, at in enumerate(order)}
    sure = []
    for at in order:
        for row in _rows(links, numbers, at):
            sure.append(row)
            if len(row) == 3:
                return sure
    return sure


def _rows(links, numbers, at):
    """The joins that begin at a numbered corner, sorted.

    One to a corner without a number has three things only: it comes behind
    the joins to numbered corners, and ahead of those to legs.
    """
    number = numbers[at]
    rows = []
    for sort, to, partner in links[at]:
        if to >= len(links):
            rows.append((number, sort, to, partner))
        elif to not in numbers:
            rows.append((number, sort, len(numbers)))
        elif numbers[to] >= number:
            rows.append((number, sort, numbers[to], partner))
    return sorted(rows)
