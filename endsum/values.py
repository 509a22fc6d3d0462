"""Weights: a number for each coloured join and corner, and the values of drawings by them."""

from endsum.checks import is_name, is_number, is_pair
from endsum.colourings import sum_over_colourings
from endsum.errors import NoColours, NoMatch, NoWeights, TooMany

MOST_COLOURS = 3
MOST_VALUED_ENDS = 10
NINE_FIGURES = 999999999


class Weights:
    """Numbers for joins by the sorts and colours of their ends, and for corners by theirs."""

    def __init__(self, stock, colours, joins, corners):
        if not is_number(colours) or not 1 <= colours <= MOST_COLOURS:
            raise NoWeights("colours")
        if not _are_joins(stock, colours, joins):
            raise NoWeights("joins")
        if not _are_corners(stock, colours, corners):
            raise NoWeights("corners")
        self.stock = stock
        self.colours = colours
        self.joins = {key: joins[key] for key in joins}
        self.corners = {key: corners[key] for key in corners}


def _are_joins(stock, colours, joins):
    """Whether this gives numbers to coloured joins."""
    if not isinstance(joins, dict) or not all([_is_weight(number) for number in joins.values()]):
        return False
    return all([_is_join(stock, colours, key) for key in joins])


def _is_weight(thing):
    """Whether this is a whole number of at most nine figures."""
    return is_number(thing) and abs(thing) <= NINE_FIGURES


def _is_join(stock, colours, key):
    """Whether this is a (sort, colour) with that of a partner, the lesser one first."""
    if not isinstance(key, tuple) or len(key) != 4:
        return False
    if not _is_colour(key[1], colours) or not _is_colour(key[3], colours):
        return False
    # Only texts can be compared with the sorts, and with one another.
    if not isinstance(key[0], str) or not isinstance(key[2], str):
        return False
    return (key[0], key[2]) in stock.sorts and key[:2] <= key[2:]


def _is_colour(thing, colours):
    """Whether this is one of so many colours."""
    return is_number(thing) and 0 <= thing < colours


def _are_corners(stock, colours, corners):
    """Whether this gives numbers to coloured corners."""
    if not isinstance(corners, dict) or not all([_is_weight(number) for number in corners.values()]):
        return False
    kinds = dict(stock.kinds)
    return all([_is_corner(kinds, colours, key) for key in corners])


def _is_corner(kinds, colours, key):
    """Whether this is a kind with a colour for each end, in order among ends of one sort."""
    if not is_pair(key) or not is_name(key[0]) or key[0] not in kinds:
        return False
    ends = kinds[key[0]]
    if not isinstance(key[1], tuple) or len(key[1]) != len(ends):
        return False
    if not all([_is_colour(colour, colours) for colour in key[1]]):
        return False
    coloured = list(zip(ends, key[1]))
    return coloured == sorted(coloured)


def value(drawing, weights, legs):
    """The sum, over all ways to colour the ends of the corners, of the product of all numbers."""
    if drawing.stock != weights.stock:
        raise NoMatch("the stocks are not equal")
    if not _are_leg_colours(drawing, weights.colours, legs):
        raise NoColours("a colour is wanted for each leg")
    kinds = dict(drawing.stock.kinds)
    if sum([len(kinds[kind]) for kind in drawing.corners]) > MOST_VALUED_ENDS:
        raise TooMany("values are told of drawings with at most ten ends of corners")
    return sum_over_colourings(drawing, weights, legs)


def _are_leg_colours(drawing, colours, legs):
    """Whether this gives a colour to each leg."""
    if not isinstance(legs, dict) or not all([is_name(name) for name in legs]):
        return False
    if not all([_is_colour(colour, colours) for colour in legs.values()]):
        return False
    # A drawing's legs are sorted by their names.
    return sorted(legs) == [leg[0] for leg in drawing.legs]
