"""Likeness: which renamings lead from drawing to drawing, and how many turns there are."""

from endsum.drawings import renamed
from endsum.errors import NoMatch
from endsum.webs import Web, completed, movers

# What is sure of a join is one number: its first corner, that end's sort, and
# the other end's place, of which there are at most twelve.
PLACES = 16
ROWS = 64


def alike(one, other):
    """A renaming by which one becomes other, or None."""
    if one.stock != other.stock:
        raise NoMatch("the stocks are not equal")
    many = len(one.corners)
    if many != len(other.corners) or one.legs != other.legs:
        return None
    if _of_legs(one.joins, many) != _of_legs(other.joins, many):
        return None
    return completed(Web(one), Web(other), tuple(range(many)), ())


def _of_legs(joins, many):
    """The joins of two legs, which no renaming moves."""
    return [join for join in joins if join[0] >= many]


def least(drawing):
    """Of all renamed drawings the one with the least corners, then the least joins."""
    order = _least_order(drawing)
    return renamed(drawing, tuple([order.index(at) for at in range(len(order))]))


def keepers(drawing):
    """The sorted list of all renamings by which the drawing stays equal."""
    web = Web(drawing)
    order = tuple(range(len(drawing.corners)))
    found = [order]
    for at in reversed(order):
        # Those found so far leave at, and all before it, where they are.
        found = [tuple([mover[number] for number in numbers])
                 for mover in movers(web, order, at) for numbers in found]
    return sorted(found)


def turns(drawing):
    """How many ways there are to change corners and ends about so that it stays."""
    web = Web(drawing)
    order = tuple(range(len(drawing.corners)))
    total = 1
    for at in order:
        total = total * len(movers(web, order, at))
    stood = {}
    for join in drawing.joins:
        stood[join] = stood.get(join, 0) + 1
        total = total * stood[join]
        if join[:2] == join[2:]:
            total = total * 2
    return total


def _least_order(drawing):
    """The corners that get the numbers 0, 1, .. in the least drawing.

    An order tells the corners that get the first numbers. What is sure of the
    joins by then decides: an order whose start is greater than another one's
    can't lead to the least drawing any more.
    """
    web = Web(drawing)
    links = _links(drawing)
    orders = [()]
    # All orders that are left have the same joins, up to those of this number and sort.
    first, sort = 0, None
    for kind in sorted(drawing.corners):
        fit = [at for at, corner in enumerate(drawing.corners) if corner == kind]
        orders = [(*order, at) for order in orders for at in fit if at not in order]
        # Where such a join is not sure yet, it had best go to the corner that is numbered now.
        near = [order for order in orders if (sort, order[-1]) in links[order[first]]]
        orders = near if near else orders
        if len(orders) > 1:
            starts = [_start(links, order, first) for order in orders]
            low = min(starts)
            orders = _unlike(web, [order for order, start in zip(orders, starts) if start == low])
            first = low[-1] // ROWS
            sort = low[-1] % ROWS - low[-1] % PLACES
    return orders[0]


def _unlike(web, orders):
    """These orders without those to which a keeper leads from an earlier one.

    Two orders that such a keeper leads to one another differ in their last
    corner only: else their beginnings would have met here before.
    """
    if len(orders) == 1:
        return orders
    unlike = []
    met = {}
    for order in orders:
        if order not in met:
            unlike.append(order)
            others = [at for at in range(len(web.rows)) if at not in order]
            for images in movers(web, (*order, *others), len(order) - 1):
                met[images[:len(order)]] = True
    return unlike


def _links(drawing):
    """For each corner all (sort, place) from an end of it to the joined end, sorts as numbers."""
    many = len(drawing.corners)
    names = sorted([sort for sort, partner in drawing.stock.sorts])
    worths = {sort: PLACES * at for at, sort in enumerate(names)}
    links = [[] for corner in drawing.corners]
    for at, sort, to, partner in drawing.joins:
        if at < many:
            links[at].append((worths[sort], to))
            if at < to < many:
                links[to].append((worths[partner], at))
    return links


def _start(links, order, first):
    """The joins of numbered corners, from a number on up to the first that is not yet sure.

    One to a corner without a number has the next number as its place: it
    comes behind the joins to numbered corners, and ahead of those to legs,
    whose places are told as one more than they are.
    """
    following = len(order)
    numbers = [following] * len(links) + list(range(len(links) + 1, PLACES))
    for number, at in enumerate(order):
        numbers[at] = number
    sure = []
    for number in range(first, following):
        row = ROWS * number
        joins = [row + sort + numbers[to] for sort, to in links[order[number]] if numbers[to] >= number]
        for join in sorted(joins):
            sure.append(join)
            if join % PLACES == following:
                return sure
    return sure
