"""[3.1] alike and least, [3.2] keepers and turns, and [0.3] as far as it reaches them."""

import unittest
from math import factorial

from endsum.drawings import Drawing, beside, renamed
from endsum.errors import EndError, NoMatch
from endsum.likeness import alike, keepers, least, turns
from endsum.stocks import Stock
from tests.samples import (all_renamings, contents, drawings_by_pairing, loose, mixed, paired,
                           renamed_plainly, unlike_drawings)

TWO_SORTS = Stock([("a", "a"), ("z", "z")],
                  [("k", ("a", "a", "z")), ("l", ("a",)), ("m", ("z", "z"))])
CASES = [
    (loose(2), [], []),
    (loose(2), [], [("x", "a"), ("y", "a")]),
    (loose(2), [], [("v", "a"), ("w", "a"), ("x", "a"), ("y", "a")]),
    (loose(2), ["k"], []),
    (loose(4), ["k"], [("x", "a"), ("y", "a")]),
    (loose(2), ["k"] * 4, []),
    (loose(2), ["k"] * 3, [("x", "a"), ("y", "a")]),
    (loose(3), ["k"] * 4, []),
    (loose(3, 1), ["k", "l", "k"], [("x", "a")]),
    (loose(1, 2), ["l", "k", "l", "k", "l"], []),
    (loose(3, 1), ["k", "l", "k", "l", "k"], [("x", "a")]),
    # where a corner without a number keeps what comes behind it from deciding
    (TWO_SORTS, ["k", "k", "k", "l"], [("x", "z"), ("y", "a")]),
    (TWO_SORTS, ["m", "l", "k", "k"], [("x", "a")]),
    (paired(), ["k"] * 4, []),
    (paired(), ["k", "l", "k"], [("p", "out")]),
    (paired(), ["l", "l"], [("p", "out"), ("q", "out")]),
    (mixed(), ["k", "m", "l", "l"], [("p", "out"), ("q", "z")]),
    (mixed(), ["m", "k", "m", "k"], [("p", "out"), ("q", "out")]),
]


def of_three(joins):
    """A drawing of six corners with three ends each of one sort."""
    rows = [(min(pair), "a", max(pair), "a") for pair in joins]
    return Drawing(loose(3), ["k"] * 6, [], sorted(rows))


def six_alike():
    """Drawings of six corners that are all of one kind."""
    prism = [(0, 1), (0, 2), (1, 2), (3, 4), (3, 5), (4, 5), (0, 3), (1, 4), (2, 5)]
    crossed = [(at, to) for at in (0, 2, 4) for to in (1, 3, 5)]
    path = [(0, 0), (0, 1), (1, 2), (1, 2), (2, 3), (3, 4), (3, 4), (4, 5), (5, 5)]
    tree = [(0, 1), (0, 2), (0, 3), (1, 1), (2, 2), (3, 4), (3, 4), (4, 5), (5, 5)]
    barbells = [(at, to) for at in (0, 2, 4) for to in (at, at + 1)] + [(1, 1), (3, 3), (5, 5)]
    bundles = [(at, at + 1) for at in (0, 2, 4)] * 3
    drawings = [of_three(rows) for rows in (prism, crossed, path, tree, barbells, bundles)]
    full = [(at, "a", to, "a") for at in range(6) for to in range(at + 1, 6)]
    drawings.append(Drawing(loose(5), ["k"] * 6, [], full))
    drawings.append(Drawing(loose(2), ["k"] * 6, [], [(at, "a", at, "a") for at in range(6)]))
    rounds = [(at, "in", (at + 1) % 6, "out") for at in range(6)]
    turned = sorted([min(row[:2], row[2:]) + max(row[:2], row[2:]) for row in rounds])
    drawings.append(Drawing(paired(), ["k"] * 6, [], turned))
    legs = [(name, "a") for name in "uvwxyz"]
    drawings.append(Drawing(loose(1), ["k"] * 6, legs, [(at, "a", 11 - at, "a") for at in range(6)]))
    drawings.append(Drawing(loose(1), ["k"] * 6, legs[:4], [
        (0, "a", 5, "a"), (1, "a", 4, "a"), (2, "a", 8, "a"), (3, "a", 7, "a"), (6, "a", 9, "a")]))
    return drawings


def five_of_three():
    """Drawings of six corners with three ends each, with the numbers of keepers and the turns."""
    crossed = [(at, to) for at in (0, 1, 2) for to in (3, 4, 5)]
    ring = [(0, 1), (1, 2), (2, 3), (3, 4), (4, 5), (0, 5)]
    prism = [(0, 1), (0, 2), (1, 2), (3, 4), (3, 5), (4, 5), (0, 3), (1, 4), (2, 5)]
    return [(of_three(rows), many, all_turns) for rows, many, all_turns in (
        (crossed, 72, 72),
        (ring + [(0, 3), (1, 4), (2, 5)], 72, 72),
        ([(0, 1), (2, 3), (4, 5)] * 3, 48, 10368),
        (prism, 12, 12),
        (ring + [(0, 1), (2, 3), (4, 5)], 6, 48))]


def plain_keepers(drawing):
    """The keepers, by going through all renamings."""
    here = (drawing.corners, drawing.joins)
    return [numbers for numbers in all_renamings(drawing)
            if renamed_plainly(drawing, numbers) == here]


def plain_least(drawing):
    """The least corners and joins, by going through all renamings."""
    return min([renamed_plainly(drawing, numbers) for numbers in all_renamings(drawing)])


def plain_turns(drawing):
    """The turns as [3.2] tells them."""
    total = len(plain_keepers(drawing))
    for join in set(drawing.joins):
        many = drawing.joins.count(join)
        total *= factorial(many)
        if join[:2] == join[2:]:
            total *= 2 ** many
    return total


def plain_group(stock, corners):
    """How many ways there are to change corners of a kind, and ends of a sort, about."""
    total = 1
    for kind, ends in stock.kinds:
        total *= factorial(corners.count(kind))
        for sort in set(ends):
            total *= factorial(ends.count(sort)) ** corners.count(kind)
    return total


class Least(unittest.TestCase):
    def agrees(self, drawing):
        before = contents(drawing)
        told = least(drawing)
        self.assertEqual((told.corners, told.joins), plain_least(drawing))
        self.assertEqual((told.stock, told.legs), (drawing.stock, drawing.legs))
        self.assertEqual(contents(drawing), before)

    def test_against_all_renamings(self):
        for stock, corners, legs in CASES:
            drawings = unlike_drawings(stock, corners, legs)
            self.assertTrue(drawings)
            for drawing in drawings:
                self.agrees(drawing)

    def test_six_corners_that_are_all_alike(self):
        for drawing in six_alike():
            self.agrees(drawing)
            for numbers in ((5, 4, 3, 2, 1, 0), (2, 0, 5, 1, 4, 3), (3, 5, 1, 0, 2, 4)):
                self.assertEqual(least(renamed(drawing, numbers)), least(drawing))

    def test_corners_come_before_joins(self):
        stock = Stock([("a", "a")], [("b", ("a", "a")), ("a", ("a",))])
        drawing = Drawing(stock, ["b", "a", "a"], [], [(0, "a", 1, "a"), (0, "a", 2, "a")])
        self.assertEqual(least(drawing).corners, ["a", "a", "b"])
        self.assertEqual(least(drawing).joins, [(0, "a", 2, "a"), (1, "a", 2, "a")])

    def test_without_corners(self):
        drawing = Drawing(loose(1), [], [("x", "a"), ("y", "a")], [(0, "a", 1, "a")])
        self.assertEqual(least(drawing), drawing)
        self.assertEqual(least(Drawing(loose(1), [], [], [])), Drawing(loose(1), [], [], []))

    def test_what_is_told_is_the_askers_own(self):
        drawing = least(of_three([(at, at + 1) for at in (0, 2, 4)] * 3))
        told = least(drawing)
        self.assertEqual(told, drawing)
        del told.corners[:], told.joins[:]
        self.assertEqual(least(drawing), drawing)


class Alike(unittest.TestCase):
    def check(self, one, other):
        before = contents(one), contents(other)
        told = alike(one, other)
        ways = [numbers for numbers in all_renamings(one)
                if one.legs == other.legs
                and renamed_plainly(one, numbers) == (other.corners, other.joins)]
        if ways:
            self.assertIs(told.__class__, tuple)
            self.assertIn(told, ways)
            self.assertEqual(renamed(one, told), other)
        else:
            self.assertIsNone(told)
        self.assertEqual(told is not None, least(one) == least(other))
        self.assertEqual((contents(one), contents(other)), before)
        return told

    def test_each_two_of_many(self):
        for stock, corners, legs in CASES:
            drawings = unlike_drawings(stock, corners, legs)[:16]
            for one in drawings:
                for other in drawings:
                    self.check(one, other)

    def test_where_corners_stand_in_another_order(self):
        for stock, corners, legs in CASES:
            for one in unlike_drawings(stock, corners, legs)[:6]:
                for numbers in all_renamings(one):
                    self.assertIsNotNone(self.check(one, renamed(one, numbers)))

    def test_six_corners_that_are_all_alike(self):
        drawings = six_alike()
        numbers = (4, 2, 0, 5, 1, 3)
        for at, one in enumerate(drawings):
            self.assertIsNotNone(self.check(one, renamed(one, numbers)))
            self.assertIsNotNone(self.check(renamed(one, numbers), one))
            for to, other in enumerate(drawings):
                if one.stock == other.stock:
                    self.assertEqual(alike(one, other) is None, at != to)

    def test_a_drawing_and_itself(self):
        for drawing in six_alike():
            self.assertEqual(renamed(drawing, alike(drawing, drawing)), drawing)

    def test_without_corners(self):
        legs = [(name, "a") for name in "wxyz"]
        one, other = [Drawing(loose(1), [], legs, rows) for rows in (
            [(0, "a", 1, "a"), (2, "a", 3, "a")], [(0, "a", 2, "a"), (1, "a", 3, "a")])]
        self.assertEqual(alike(one, one), ())
        self.assertIsNone(alike(one, other))
        empty = Drawing(loose(1), [], [], [])
        self.assertEqual(alike(empty, empty), ())
        self.assertIsNone(alike(one, empty))

    def test_legs_keep_their_names(self):
        stock = loose(1)
        one, other = [Drawing(stock, ["k"], [(name, "a")], [(0, "a", 1, "a")]) for name in "xy"]
        self.assertIsNone(alike(one, other))
        stock = Stock([("a", "a")], [("k", ("a",)), ("l", ("a",))])
        legs = [("x", "a"), ("y", "a")]
        one = Drawing(stock, ["k", "l"], legs, [(0, "a", 2, "a"), (1, "a", 3, "a")])
        other = Drawing(stock, ["k", "l"], legs, [(0, "a", 3, "a"), (1, "a", 2, "a")])
        self.assertIsNone(alike(one, other))
        self.assertIsNone(alike(one, Drawing(stock, ["k", "k"], legs, one.joins)))

    def test_unlike_numbers_of_corners(self):
        one = Drawing(loose(2), ["k"], [], [(0, "a", 0, "a")])
        two = beside(one, one)
        self.assertIsNone(alike(one, two))
        self.assertIsNone(alike(two, one))

    def test_equal_stocks_need_not_be_the_same(self):
        one = Drawing(loose(2), ["k"], [], [(0, "a", 0, "a")])
        self.assertEqual(alike(one, Drawing(loose(2), ["k"], [], [(0, "a", 0, "a")])), (0,))

    def test_no_match(self):
        one = Drawing(loose(2), ["k"], [], [(0, "a", 0, "a")])
        for stock in (loose(2, 1), Stock([("a", "a"), ("b", "b")], loose(2).kinds)):
            other = Drawing(stock, ["k"], [], [(0, "a", 0, "a")])
            for first, second in ((one, other), (other, one)):
                with self.assertRaises(NoMatch) as caught:
                    alike(first, second)
                self.assertIsInstance(caught.exception, EndError)
            with self.assertRaises(NoMatch):
                alike(one, Drawing(stock, [], [], []))
        kinds = [("k", ("a",)), ("l", ("a",))]
        with self.assertRaises(NoMatch):
            alike(Drawing(Stock([("a", "a")], kinds), [], [], []),
                  Drawing(Stock([("a", "a")], kinds[::-1]), [], [], []))


class Keepers(unittest.TestCase):
    def test_against_all_renamings(self):
        for stock, corners, legs in CASES:
            for drawing in unlike_drawings(stock, corners, legs):
                before = contents(drawing)
                self.assertEqual(keepers(drawing), plain_keepers(drawing))
                self.assertEqual(contents(drawing), before)

    def test_six_corners_that_are_all_alike(self):
        for drawing in six_alike():
            self.assertEqual(keepers(drawing), plain_keepers(drawing))

    def test_without_corners(self):
        self.assertEqual(keepers(Drawing(loose(1), [], [], [])), [()])

    def test_directions_count(self):
        joins = [(0, "in", 1, "out"), (0, "out", 2, "in"), (1, "in", 2, "out")]
        drawing = Drawing(paired(), ["k"] * 3, [], joins)
        self.assertEqual(keepers(drawing), [(0, 1, 2), (1, 2, 0), (2, 0, 1)])

    def test_each_list_is_the_askers_own(self):
        drawing = Drawing(loose(2), ["k", "k"], [], [(0, "a", 0, "a"), (1, "a", 1, "a")])
        told = keepers(drawing)
        self.assertIs(told.__class__, list)
        told.clear()
        self.assertEqual(keepers(drawing), [(0, 1), (1, 0)])


class Turns(unittest.TestCase):
    def test_the_examples(self):
        stock = loose(3)
        thrice = Drawing(stock, ["k", "k"], [], [(0, "a", 1, "a")] * 3)
        self.assertEqual(turns(thrice), 2 * 6)
        looped = Drawing(stock, ["k", "k"], [],
                         [(0, "a", 0, "a"), (0, "a", 1, "a"), (1, "a", 1, "a")])
        self.assertEqual(turns(looped), 2 * 2 * 2)

    def test_known_numbers(self):
        known = [12, 72, 32, 32, 6 * 8 ** 3, 6 * 12 ** 3, 720, 720 * 2 ** 6, 6, 1, 8]
        self.assertEqual([turns(drawing) for drawing in six_alike()], known)

    def test_loops_that_stand_there_several_times(self):
        self.assertEqual(turns(Drawing(loose(4), ["k"], [], [(0, "a", 0, "a")] * 2)), 2 * 4)
        legs = [("x", "a")]
        drawing = Drawing(loose(5), ["k"], legs, [(0, "a", 0, "a")] * 2 + [(0, "a", 1, "a")])
        self.assertEqual(turns(drawing), 2 * 4)

    def test_a_loop_of_unlike_ends_does_not_turn(self):
        self.assertEqual(turns(Drawing(paired(), ["k"], [], [(0, "in", 0, "out")])), 1)
        stock = Stock([("in", "out"), ("out", "in")], [("k", ("in", "in", "out", "out"))])
        self.assertEqual(turns(Drawing(stock, ["k"], [], [(0, "in", 0, "out")] * 2)), 2)

    def test_without_corners(self):
        self.assertEqual(turns(Drawing(loose(1), [], [], [])), 1)
        legs = [("x", "a"), ("y", "a")]
        self.assertEqual(turns(Drawing(loose(1), [], legs, [(0, "a", 1, "a")])), 1)

    def test_against_all_renamings(self):
        for stock, corners, legs in CASES:
            for drawing in unlike_drawings(stock, corners, legs):
                before = contents(drawing)
                self.assertEqual(turns(drawing), plain_turns(drawing))
                self.assertEqual(contents(drawing), before)
        for drawing in six_alike():
            self.assertEqual(turns(drawing), plain_turns(drawing))

    def test_turns_tell_how_often_a_drawing_comes(self):
        for stock, corners, legs in CASES:
            often = {}
            for drawing in drawings_by_pairing(stock, corners, legs):
                told = tuple(least(drawing).joins)
                often.setdefault(told, [0, drawing])[0] += 1
            for many, drawing in often.values():
                self.assertEqual(many * turns(drawing), plain_group(stock, corners))



class SixOfThreeEnds(unittest.TestCase):
    RENAMINGS = [(0, 1, 2, 3, 4, 5), (5, 4, 3, 2, 1, 0), (4, 2, 0, 5, 1, 3), (3, 0, 5, 1, 2, 4)]

    def test_keepers_and_turns(self):
        for one, many, all_turns in five_of_three():
            for numbers in self.RENAMINGS:
                drawing = renamed(one, numbers)
                self.assertEqual(len(keepers(drawing)), many)
                self.assertEqual(keepers(drawing), plain_keepers(drawing))
                self.assertEqual(turns(drawing), all_turns)

    def test_least(self):
        for one, _, _ in five_of_three():
            corners, joins = plain_least(one)
            for numbers in self.RENAMINGS:
                told = least(renamed(one, numbers))
                self.assertEqual((told.corners, told.joins), (corners, joins))

    def test_only_the_first_two_are_alike(self):
        for at, (one, _, _) in enumerate(five_of_three()):
            for to, (other, _, _) in enumerate(five_of_three()):
                for numbers in self.RENAMINGS:
                    goal = renamed(other, numbers)
                    found = alike(one, goal)
                    self.assertEqual(found is not None, at == to or at + to == 1)
                    if found is not None:
                        self.assertEqual(renamed(one, found), goal)


if __name__ == "__main__":
    unittest.main()
