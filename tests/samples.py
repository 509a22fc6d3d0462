"""What several tests draw on: stocks, odd things, and plain reckonings to compare with."""

from itertools import permutations

from endsum.drawings import Drawing
from endsum.stocks import Stock

LOOSE = [("a", "a")]
PAIRED = [("in", "out"), ("out", "in")]
THREE = [("z", "z"), ("in", "out"), ("out", "in")]


def loose(*counts):
    """A stock of one sort that is its own partner; kind k, l, .. has so many ends."""
    return Stock(LOOSE, [(name, ("a",) * many) for name, many in zip("klmn", counts)])


def paired():
    """A stock of two sorts that are partners of each other."""
    return Stock(PAIRED, [("k", ("in", "out")), ("l", ("in", "in", "out"))])


def mixed():
    """A stock of three sorts, one of which is its own partner."""
    return Stock(THREE, [("k", ("in", "out", "z", "z")), ("l", ("z",)), ("m", ("in", "z"))])


def odd_things():
    """Things of all kinds, none of which is sorts, kinds, corners, legs, joins or a renaming."""
    stock = loose(2)
    return [
        None, 0, 1, -1, 10 ** 17, 1.0, float("nan"), True, False, "", "a", "k", "sorts", b"", b"k",
        {}, {"a": "a"}, {0: 1}, {(0, "a"): (0, "a")}, stock, Drawing(stock, [], [], []), Stock, len,
        [None], [True], [0], [1.0], [""], [b"k"], [[]], [["a", "a"]], [{}], [()], [(None,)],
        [("a",)], [("a", None)], [("a", "a", "a")], [("a", ["a"])], [(["a"], "a")], [("a", {})],
        [("a", b"a")], [({}, {}), ([], [])], [stock], [(stock, stock)], [(1, "a", 1, "a")],
        [[0, "a", 0, "a"]], [(0, "a", 0)], [(0, "a", 0, "a", 0)], [([], {}, [], {})],
        [(stock, stock, stock, stock)], [[[[[[]]]]]], (None,), ([],), ({},), (stock,), ("a",),
        ((0,),), (1.0,), (0.0,), (True,), (False,), (-1,), (0, 0), (0, 2, 3), {"a", "b"},
    ]


def ends_of(stock, corners, legs):
    """All ends, corner by corner, then the legs'."""
    ends = []
    for place, kind in enumerate(corners):
        ends += [(place, sort) for sort in dict(stock.kinds)[kind]]
    for at, (_, sort) in enumerate(legs):
        ends.append((len(corners) + at, sort))
    return ends


def pairings_of(ends, partners):
    """All ways to pair a list of ends, as lists of joins in no order."""
    if not ends:
        yield []
        return
    first = ends[0]
    for at in range(1, len(ends)):
        if partners[first[1]] != ends[at][1]:
            continue
        join = min(first, ends[at]) + max(first, ends[at])
        for rest in pairings_of(ends[1:at] + ends[at + 1:], partners):
            yield [join] + rest


def drawings_by_pairing(stock, corners, legs):
    """The drawing of each pairing, equal ones as often as they come."""
    partners = dict(stock.sorts)
    for joins in pairings_of(ends_of(stock, corners, legs), partners):
        yield Drawing(stock, corners, legs, sorted(joins))


def unlike_drawings(stock, corners, legs):
    """The drawing of each pairing, equal ones once."""
    told = {}
    for drawing in drawings_by_pairing(stock, corners, legs):
        told[tuple(drawing.joins)] = drawing
    return list(told.values())


def contents(drawing):
    """All that a drawing holds, in a value of its own."""
    stock = drawing.stock
    return (list(stock.sorts), list(stock.kinds), list(drawing.corners),
            list(drawing.legs), list(drawing.joins))


def renamed_plainly(drawing, numbers):
    """Corners and joins of a renamed drawing, reckoned end by end."""
    places = list(numbers) + [len(numbers) + at for at in range(len(drawing.legs))]
    corners = [None] * len(numbers)
    for at, number in enumerate(numbers):
        corners[number] = drawing.corners[at]
    joins = []
    for place, sort, other_place, other_sort in drawing.joins:
        ends = sorted([(places[place], sort), (places[other_place], other_sort)])
        joins.append(ends[0] + ends[1])
    return corners, sorted(joins)


def all_renamings(drawing):
    """All renamings of a drawing, sorted."""
    return list(permutations(range(len(drawing.corners))))


def every_kind_of_stock():
    """Stocks, with corners and legs of at most eight ends, that differ in all that may matter."""
    two = Stock([("b", "b"), ("a", "a")], [("l", ("a", "b")), ("k", ("a", "a", "b"))])
    return [
        (loose(2), [], []),
        (loose(1), [], [("x", "a"), ("y", "a")]),
        (loose(1), [], [("w", "a"), ("x", "a"), ("y", "a"), ("z", "a")]),
        (loose(3), ["k"], []),
        (loose(3), ["k"], [("x", "a")]),
        (loose(4), ["k", "k"], []),
        (loose(2), ["k"] * 4, []),
        (loose(2), ["k"] * 3, [("x", "a"), ("y", "a")]),
        (loose(1, 2), ["l", "k", "l", "k"], [("x", "a"), ("y", "a")]),
        (loose(3, 1), ["l", "k", "k", "l"], []),
        (loose(1), ["k"] * 6, [("x", "a"), ("y", "a")]),
        (loose(1), ["k"] * 3, [("w", "a"), ("x", "a"), ("y", "a"), ("z", "a"), ("zz", "a")]),
        (two, ["k", "l", "l"], [("x", "b")]),
        (two, ["l", "k", "k"], []),
        (paired(), ["k"] * 4, []),
        (paired(), ["k", "l"], [("p", "out")]),
        (paired(), ["l", "k"], [("p", "in")]),
        (paired(), [], [("p", "in"), ("q", "out")]),
        (paired(), ["k", "k"], [("p", "in"), ("q", "out")]),
        (mixed(), ["k", "l", "m"], [("p", "out")]),
        (mixed(), ["m", "m"], [("p", "out"), ("q", "out")]),
        (mixed(), ["l"] * 2, [("p", "in"), ("q", "out"), ("r", "z"), ("s", "z")]),
    ]


def all_drawings():
    """Drawings of all kinds of stocks."""
    return [drawing for stock, corners, legs in every_kind_of_stock()
            for drawing in unlike_drawings(stock, corners, legs)[:40]]


def plain_groups(places, joins):
    """The sorted lists of places that joins lead to from one another, by their least."""
    left, groups = list(places), []
    while left:
        group = [left[0]]
        for place in group:
            for one, _, other, _ in joins:
                for here, there in ((one, other), (other, one)):
                    if here == place and there not in group:
                        group.append(there)
        groups.append(sorted(group))
        left = [place for place in left if place not in group]
    return groups


def inner(drawing):
    """The inner joins, equal ones apart."""
    return [join for join in drawing.joins if max(join[0], join[2]) < len(drawing.corners)]


def told(value):
    """A fraction as it is to be told."""
    return (value.numerator, value.denominator)
