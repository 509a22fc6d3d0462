"""Drawings: corners with ends, named legs, and the joins of all their ends."""

from endsum.checks import are_unlike, is_list, is_name, is_number, is_pair
from endsum.errors import NoDrawing, NoMatch, NoRenaming, TooMany

MOST_CORNERS = 6
MOST_LEGS = 6


class Drawing:
    """Corners and legs of a stock, with each of their ends in just one join."""

    def __init__(self, stock, corners, legs, joins):
        check_places(stock, corners, legs)
        if not _are_joins(stock, corners, legs, joins):
            raise NoDrawing("joins")
        self.stock = stock
        self.corners = list(corners)
        self.legs = list(legs)
        self.joins = list(joins)

    def __eq__(self, other):
        return (
            isinstance(other, Drawing)
            and self.stock == other.stock
            and self.corners == other.corners
            and self.legs == other.legs
            and self.joins == other.joins
        )


def check_places(stock, corners, legs):
    """Refuse what is no list of corners, then what is no list of legs."""
    if not _are_corners(stock, corners):
        raise NoDrawing("corners")
    if not _are_legs(stock, legs):
        raise NoDrawing("legs")


def _are_corners(stock, corners):
    """Whether these are names of kinds of the stock."""
    if not is_list(corners, 0, MOST_CORNERS):
        return False
    kinds = dict(stock.kinds)
    return all([is_name(kind) and kind in kinds for kind in corners])


def _are_legs(stock, legs):
    """Whether these are sorted legs of unlike names, with sorts of the stock."""
    if not is_list(legs, 0, MOST_LEGS):
        return False
    partners = dict(stock.sorts)
    if not all([_is_leg(leg, partners) for leg in legs]):
        return False
    return legs == sorted(legs) and are_unlike([leg[0] for leg in legs])


def _is_leg(leg, partners):
    """Whether this is a name with one of these sorts."""
    return is_pair(leg) and is_name(leg[0]) and is_name(leg[1]) and leg[1] in partners


def _are_joins(stock, corners, legs, joins):
    """Whether these are sorted joins in which each end stands just once."""
    if not isinstance(joins, list) or not all([is_join(stock, row) for row in joins]):
        return False
    joined = [row[:2] for row in joins] + [row[2:] for row in joins]
    return joins == sorted(joins) and sorted(joined) == all_ends(stock, corners, legs)


def is_join(stock, row):
    """Whether these are two ends of partners, the lesser one first, wherever they are."""
    if not isinstance(row, tuple) or len(row) != 4:
        return False
    if not is_number(row[0]) or not is_number(row[2]):
        return False
    # Only texts can be compared with the sorts, and with one another.
    if not isinstance(row[1], str) or not isinstance(row[3], str):
        return False
    return (row[1], row[3]) in stock.sorts and row[:2] <= row[2:]


def all_ends(stock, corners, legs):
    """All ends (place, sort), sorted: corner by corner, each by its kind, then the legs'."""
    kinds = dict(stock.kinds)
    ends = [(place, sort) for place, kind in enumerate(corners) for sort in kinds[kind]]
    return ends + [(len(corners) + at, leg[1]) for at, leg in enumerate(legs)]


def moved(joins, places):
    """The joins when each place gets the one that places tells for it, sorted."""
    rows = []
    for place, sort, other_place, other_sort in joins:
        one = (places[place], sort)
        other = (places[other_place], other_sort)
        rows.append(min(one, other) + max(one, other))
    return sorted(rows)


def renamed(drawing, numbers):
    """The drawing in which corner i has the number numbers[i]."""
    many = len(drawing.corners)
    if not _is_renaming(numbers, many):
        raise NoRenaming("a renaming is a tuple with each number of a corner just once")
    corners = [drawing.corners[numbers.index(number)] for number in range(many)]
    places = list(numbers) + list(range(many, many + len(drawing.legs)))
    return Drawing(drawing.stock, corners, drawing.legs, moved(drawing.joins, places))


def _is_renaming(numbers, many):
    """Whether this is a tuple in which each number below many stands just once."""
    if not isinstance(numbers, tuple) or not all([is_number(number) for number in numbers]):
        return False
    return sorted(numbers) == list(range(many))


def beside(one, other):
    """The drawing of both: the corners of one, then those of other, and all legs."""
    if one.stock != other.stock:
        raise NoMatch("the stocks are not equal")
    if not are_unlike([leg[0] for leg in one.legs + other.legs]):
        raise NoMatch("a leg's name stands in both")
    corners = one.corners + other.corners
    legs = sorted(one.legs + other.legs)
    if len(corners) > MOST_CORNERS or len(legs) > MOST_LEGS:
        raise TooMany("a drawing has at most six corners and six legs")
    joins = moved(one.joins, _places(one, 0, corners, legs))
    joins = joins + moved(other.joins, _places(other, len(one.corners), corners, legs))
    return Drawing(one.stock, corners, legs, sorted(joins))


def _places(drawing, first, corners, legs):
    """The places of a drawing's corners, from first on, and legs among these."""
    places = list(range(first, first + len(drawing.corners)))
    return places + [len(corners) + legs.index(leg) for leg in drawing.legs]
