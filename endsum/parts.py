"""Parts of a drawing, the cuts that part it further, and cutting and joining it."""

from endsum.checks import is_name, is_pair
from endsum.drawings import MOST_LEGS, Drawing, is_join, moved
from endsum.errors import NoJoin, NoLeg, NoName, TooMany


def parts(drawing):
    """The drawings of all that hangs together, by their least places."""
    return [_part(drawing, places) for places in hanging(_many_places(drawing), drawing.joins)]


def _many_places(drawing):
    """How many corners and legs there are."""
    return len(drawing.corners) + len(drawing.legs)


def hanging(many, joins):
    """The rising lists of the places below many that hang together by joins, by their least."""
    marks = list(range(many))
    for join in joins:
        mark, gone = marks[join[0]], marks[join[2]]
        if mark != gone:
            marks = [mark if other == gone else other for other in marks]
    groups = {}
    for place, mark in enumerate(marks):
        groups.setdefault(mark, []).append(place)
    return list(groups.values())


def _part(drawing, places):
    """The drawing of these places, to which all of their joins lead."""
    many = len(drawing.corners)
    numbers = {place: number for number, place in enumerate(places)}
    corners = [drawing.corners[place] for place in places if place < many]
    legs = [drawing.legs[place - many] for place in places if place >= many]
    joins = [join for join in drawing.joins if join[0] in numbers]
    return Drawing(drawing.stock, corners, legs, moved(joins, numbers))


def is_whole(drawing):
    """Whether there is just one part."""
    return len(hanging(_many_places(drawing), drawing.joins)) == 1


def cuts(drawing):
    """The sorted list of the inner joins without any one of which there are more parts."""
    many = _many_places(drawing)
    fewest = len(hanging(many, drawing.joins))
    found = []
    for at, join in enumerate(drawing.joins):
        left = drawing.joins[:at] + drawing.joins[at + 1:]
        if _is_inner(drawing, join) and len(hanging(many, left)) > fewest:
            found.append(join)
    return found


def _is_inner(drawing, join):
    """Whether both places of a join are corners."""
    # The second place is no less than the first one.
    return join[2] < len(drawing.corners)


def inner_joins(drawing):
    """The inner joins in their order, equal ones as often as they stand there."""
    return [join for join in drawing.joins if _is_inner(drawing, join)]


def is_free(drawing):
    """Whether the drawing is whole, has a corner, and has no cuts."""
    return is_whole(drawing) and len(drawing.corners) > 0 and cuts(drawing) == []


def pieces(drawing):
    """The rising lists of corners that hang together by inner joins that are no cuts, by their least."""
    parting = cuts(drawing)
    joins = [join for join in inner_joins(drawing) if join not in parting]
    return hanging(len(drawing.corners), joins)


def cut(drawing, join, names):
    """The drawing without an inner join, whose ends get legs with these names."""
    if not _has_inner(drawing, join):
        raise NoJoin("the drawing has no such inner join")
    if not _are_new_names(drawing, names):
        raise NoName("two unlike names are wanted that no leg of the drawing has")
    if len(drawing.legs) + 2 > MOST_LEGS:
        raise TooMany("a drawing has at most six legs")
    first, second = join[:2], join[2:]
    # A join is of partners: either end's leg has the sort of the other end.
    added = [(names[0], second[1]), (names[1], first[1])]
    legs = sorted(drawing.legs + added)
    left = list(drawing.joins)
    left.remove(join)
    joins = moved(left, _places_among(drawing, legs))
    for end, leg in zip([first, second], added):
        joins.append(end + (len(drawing.corners) + legs.index(leg), leg[1]))
    return Drawing(drawing.stock, drawing.corners, legs, sorted(joins))


def _has_inner(drawing, join):
    """Whether this is one of the inner joins."""
    return is_join(drawing.stock, join) and join in drawing.joins and _is_inner(drawing, join)


def _are_new_names(drawing, names):
    """Whether this is a tuple of two unlike names that none of the legs has."""
    if not is_pair(names) or not is_name(names[0]) or not is_name(names[1]):
        return False
    taken = dict(drawing.legs)
    return names[0] != names[1] and names[0] not in taken and names[1] not in taken


def _places_among(drawing, legs):
    """For each place of a drawing its place among the same corners and these legs, None without."""
    many = len(drawing.corners)
    numbers = {leg: many + at for at, leg in enumerate(legs)}
    return list(range(many)) + [numbers.get(leg) for leg in drawing.legs]


def join_legs(drawing, one, other):
    """The drawing without two legs, so called, whose ends are joined with each other."""
    names = [leg[0] for leg in drawing.legs]
    if not is_name(one) or not is_name(other) or one == other or one not in names or other not in names:
        raise NoLeg("the names of two unlike legs are wanted")
    many = len(drawing.corners)
    gone = [many + names.index(one), many + names.index(other)]
    first, second = [_end_beyond(drawing, place) for place in gone]
    if first[0] in gone or (first[1], second[1]) not in drawing.stock.sorts:
        raise NoJoin("the legs are joined with one another, or the sorts of their ends are no partners")
    legs = [leg for leg in drawing.legs if leg[0] not in (one, other)]
    left = [join for join in drawing.joins if join[0] not in gone and join[2] not in gone]
    joins = moved([*left, first + second], _places_among(drawing, legs))
    return Drawing(drawing.stock, drawing.corners, legs, joins)


def _end_beyond(drawing, leg_place):
    """The end to which a leg is joined."""
    for join in drawing.joins:
        if join[0] == leg_place:
            return join[2:]
        if join[2] == leg_place:
            return join[:2]
    return None
