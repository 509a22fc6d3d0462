"""[8.1] weights and [8.2] value, and [0.2] and [0.3] as far as these reach them."""

import copy
import unittest
from fractions import Fraction
from itertools import product

from endsum.drawings import Drawing, renamed
from endsum.errors import EndError, NoColours, NoMatch, NoWeights, TooMany
from endsum.likeness import turns
from endsum.lists import drawings
from endsum.pairings import drawing_of, group, pairings
from endsum.stocks import Stock
from endsum.values import Weights, value
from tests.samples import (all_renamings, contents, drawings_by_pairing, ends_of,
                           every_kind_of_stock, loose, mixed, odd_things, paired, unlike_drawings)

NUMBERS = [3, -2, 5, 0, 7, -1, 11, 1, 0, 13, -4, 2]
MOST = 999999999


def all_joins(stock, colours):
    """All keys of joins."""
    partners = dict(stock.sorts)
    ends = [(sort, colour) for sort in partners for colour in range(colours)]
    return [one + other for one in ends for other in ends
            if partners[one[0]] == other[0] and one <= other]


def all_corners(stock, colours):
    """All keys of corners."""
    return [(kind, row) for kind, ends in stock.kinds
            for row in product(range(colours), repeat=len(ends))
            if list(zip(ends, row)) == sorted(zip(ends, row))]


def numbered(keys, start):
    """A dict that gives these keys numbers."""
    return {key: NUMBERS[(start + 5 * at) % len(NUMBERS)] for at, key in enumerate(keys)}


def some_weights(stock, colours, start=0):
    """The two dicts of weights, with numbers of all kinds, and a few left out."""
    joins = numbered(all_joins(stock, colours), start)
    corners = numbered(all_corners(stock, colours), start + 1)
    for table in (joins, corners):
        for key in list(table)[3::5]:
            del table[key]
    return joins, corners


def plain_value(drawing, colours, joins, corners, legs):
    """The value, by going through all colours of all ends of corners."""
    many = len(drawing.corners)
    ends = [end for join in drawing.joins for end in (join[:2], join[2:])]
    choices = [range(colours) if place < many else [legs[drawing.legs[place - many][0]]]
               for place, _ in ends]
    total = 0
    for row in product(*choices):
        coloured = [(place, sort, colour) for (place, sort), colour in zip(ends, row)]
        number = 1
        for one, other in zip(coloured[::2], coloured[1::2]):
            low, high = sorted([one[1:], other[1:]])
            number *= joins.get(low + high, 0)
        for at, kind in enumerate(drawing.corners):
            here = sorted(end[1:] for end in coloured if end[0] == at)
            number *= corners.get((kind, tuple(colour for _, colour in here)), 0)
        total += number
    return total


def leg_colours(legs, colours):
    """All ways to give colours to legs."""
    for row in product(range(colours), repeat=len(legs)):
        yield {name: colour for (name, _), colour in zip(legs, row)}


def ends_of_corners(stock, corners):
    """How many ends these corners have."""
    return len(ends_of(stock, corners, []))


class MakingWeights(unittest.TestCase):
    def refused(self, part, *args):
        with self.assertRaises(NoWeights) as caught:
            Weights(*args)
        self.assertEqual(caught.exception.part, part, args[1:])

    def test_one_to_three_colours(self):
        for colours in (1, 2, 3):
            Weights(loose(2), colours, {}, {})
        for colours in (0, 4, -1, 10 ** 17, True, False, "2", b"2", None, 1.0, 2.5, (2,), [2], {2: 2}):
            self.refused("colours", loose(2), colours, {}, {})
        for thing in odd_things():
            if thing.__class__ is not int or thing != 1:
                self.refused("colours", loose(2), thing, {}, {})

    def test_all_keys_that_there_are(self):
        for stock in (loose(5, 1), paired(), mixed()):
            for colours in (1, 2, 3):
                joins, corners = all_joins(stock, colours), all_corners(stock, colours)
                self.assertEqual(len(joins), len(set(joins)))
                Weights(stock, colours, dict.fromkeys(joins, 1), dict.fromkeys(corners, 1))
                for key in joins:
                    Weights(stock, colours, {key: -1}, {})
                for key in corners:
                    Weights(stock, colours, {}, {key: -1})

    def test_numbers_of_at_most_nine_figures(self):
        join, corner = ("a", 0, "a", 1), ("k", (0, 1))
        for number in (0, 1, -1, MOST, -MOST):
            Weights(loose(2), 2, {join: number}, {corner: number})
        for number in (MOST + 1, -MOST - 1, 10 ** 17, True, False, "1", 1.0, None, (1,), [1]):
            self.refused("joins", loose(2), 2, {join: number}, {})
            self.refused("corners", loose(2), 2, {join: 1}, {corner: number})
        for thing in odd_things():
            if thing.__class__ is not int or abs(thing) > MOST:
                self.refused("joins", loose(2), 2, {join: thing}, {})
                self.refused("corners", loose(2), 2, {}, {corner: thing})

    def test_no_dict(self):
        for thing in odd_things():
            if thing != {}:
                self.refused("joins", loose(2), 2, thing, {})
                self.refused("corners", loose(2), 2, {}, thing)
        self.refused("joins", loose(2), 2, [("a", 0, "a", 0)], {})
        self.refused("corners", loose(2), 2, {}, [("k", (0, 0))])

    def test_keys_that_are_none(self):
        for thing in odd_things():
            try:
                joins, corners = {("a", 0, "a", 0): 1, thing: 1}, {("k", (0, 0)): 1, thing: 1}
            except TypeError:
                continue
            self.refused("joins", loose(2), 2, joins, {})
            self.refused("corners", loose(2), 2, {}, corners)

    def test_keys_of_joins(self):
        for key in (("a", 0, "a"), ("a", 0, "a", 0, "a"), (("a", 0), ("a", 0)), (0, "a", 0, "a"),
                    ("a", 1, "a", 0), ("a", 2, "a", 2), ("a", 0, "a", 2), ("a", -1, "a", 0),
                    ("a", False, "a", 0), ("a", 0, "a", True), ("a", True, "a", True),
                    ("a", 0.0, "a", 0), ("a", "0", "a", "0"), ("a", None, "a", None),
                    ("b", 0, "b", 0), ("a", 0, "b", 0), ("", 0, "", 0), (b"a", 0, b"a", 0),
                    (None, 0, None, 0), (("a",), 0, ("a",), 0), "aaaa", ()):
            self.refused("joins", loose(2), 2, {key: 1}, {})
        for key in (("in", 0, "in", 0), ("out", 0, "in", 0), ("out", 1, "out", 1), ("out", 0, "in", 1),
                    ("in", 0, "z", 0), ("in", 0, "out", 2), ("z", 1, "z", 0)):
            self.refused("joins", mixed(), 2, {key: 1}, {})
        Weights(mixed(), 2, {("in", 1, "out", 0): 1, ("z", 0, "z", 1): 1}, {})

    def test_keys_of_corners(self):
        for key in (("a", (0, 0)), ("l", (0, 0)), ("", (0, 0)), (None, (0, 0)), (b"k", (0, 0)),
                    ("k", (0,)), ("k", (0, 0, 0)), ("k", ()), ("k", (1, 0)), ("k", (0, 2)),
                    ("k", (-1, 0)), ("k", (False, 1)), ("k", (0, True)), ("k", (0.0, 1)),
                    ("k", ("0", "1")), ("k", "01"), ("k", None), ("k", 0), ("k", 0, 0),
                    ("k", (0, 0), 1), ("k",), "k0", ((0, 0), "k")):
            self.refused("corners", loose(2), 2, {}, {key: 1})

    def test_colours_never_fall_among_ends_of_one_sort_alone(self):
        stock = Stock([("a", "a"), ("b", "b")], [("k", ("a", "a", "b", "b"))])
        for row in product(range(2), repeat=4):
            if row[:2] == (1, 0) or row[2:] == (1, 0):
                self.refused("corners", stock, 2, {}, {("k", row): 1})
            else:
                Weights(stock, 2, {}, {("k", row): 1})

    def test_the_first_that_is_not_so(self):
        self.refused("colours", loose(2), 0, None, None)
        self.refused("joins", loose(2), 2, None, None)
        self.refused("joins", loose(2), 1, {("a", 0, "a", 1): 1}, {("k", (0, 1)): 1})
        self.refused("corners", loose(2), 1, {("a", 0, "a", 0): 1}, {("k", (0, 1)): 1})

    def test_what_is_handed_in_stays(self):
        stock = mixed()
        joins, corners = some_weights(stock, 2)
        kept = copy.deepcopy((joins, corners))
        Weights(stock, 2, joins, corners)
        self.assertEqual((joins, corners), kept)
        with self.assertRaises(NoWeights):
            Weights(stock, 1, joins, corners)
        self.assertEqual((joins, corners), kept)

    def test_what_is_changed_behind_changes_nothing(self):
        stock = loose(2)
        joins, corners = {("a", 0, "a", 0): 3}, {("k", (0, 0)): 5}
        weights = Weights(stock, 1, joins, corners)
        loop = Drawing(stock, ["k"], [], [(0, "a", 0, "a")])
        joins[("a", 0, "a", 0)] = 100
        corners.clear()
        self.assertEqual(value(loop, weights, {}), 15)


class Values(unittest.TestCase):
    def check(self, drawing, colours, start):
        joins, corners = some_weights(drawing.stock, colours, start)
        weights = Weights(drawing.stock, colours, joins, corners)
        for legs in list(leg_colours(drawing.legs, colours))[start % 2::3]:
            before = (contents(drawing), dict(legs))
            wanted = plain_value(drawing, colours, joins, corners, legs)
            self.assertEqual(value(drawing, weights, legs), wanted, contents(drawing))
            self.assertEqual((contents(drawing), legs), before)
            self.seen[wanted != 0] += 1

    def test_against_going_through_all_colours(self):
        self.seen = [0, 0]
        for stock, corners, legs in every_kind_of_stock():
            for at, drawing in enumerate(unlike_drawings(stock, corners, legs)[:9]):
                self.check(drawing, 1, at)
                self.check(drawing, 2, at)
                if ends_of_corners(stock, corners) <= 4:
                    self.check(drawing, 3, at)
        self.assertGreater(self.seen[1], 100)

    def test_several_joins_of_one_place(self):
        stock = loose(3)
        self.seen = [0, 0]
        thrice = Drawing(stock, ["k", "k"], [], [(0, "a", 1, "a")] * 3)
        bell = Drawing(stock, ["k", "k"], [], [(0, "a", 0, "a"), (0, "a", 1, "a"), (1, "a", 1, "a")])
        for drawing in (thrice, bell):
            for start in range(4):
                self.check(drawing, 3, start)
        self.assertGreater(self.seen[1], 0)

    def test_joins_that_lead_past_a_corner(self):
        stock = loose(1, 2)
        ring = Drawing(stock, ["l"] * 4, [], [(0, "a", 2, "a"), (0, "a", 3, "a"), (1, "a", 2, "a"), (1, "a", 3, "a")])
        path = Drawing(stock, ["k", "l", "l", "k"], [],
                       [(0, "a", 2, "a"), (1, "a", 2, "a"), (1, "a", 3, "a")])
        self.seen = [0, 0]
        for start in range(4):
            self.check(ring, 2, start)
            self.check(path, 3, start)
        self.assertGreater(self.seen[1], 0)

    def test_a_loop(self):
        stock = loose(2)
        loop = Drawing(stock, ["k"], [], [(0, "a", 0, "a")])
        joins = {("a", 0, "a", 0): 2, ("a", 0, "a", 1): 3, ("a", 1, "a", 1): 5}
        corners = {("k", (0, 0)): 7, ("k", (0, 1)): 11, ("k", (1, 1)): 13}
        # Its two ends are told apart: one of each colour comes twice.
        wanted = 2 * 7 + 2 * 3 * 11 + 5 * 13
        self.assertEqual(value(loop, Weights(stock, 2, joins, corners), {}), wanted)

    def test_a_leg_has_its_own_colour(self):
        stock = paired()
        drawing = Drawing(stock, ["k"], [("p", "in"), ("q", "out")], [(0, "in", 2, "out"), (0, "out", 1, "in")])
        joins = {("in", 0, "out", 0): 2, ("in", 0, "out", 1): 3, ("in", 1, "out", 0): 5, ("in", 1, "out", 1): 7}
        corners = {("k", (0, 0)): 11, ("k", (0, 1)): 13, ("k", (1, 0)): 17, ("k", (1, 1)): 19}
        weights = Weights(stock, 2, joins, corners)
        # The corner's in is joined to the leg q of colour 1, its out to the leg p of colour 0.
        wanted = 11 * 3 * 2 + 13 * 3 * 3 + 17 * 7 * 2 + 19 * 7 * 3
        self.assertEqual(value(drawing, weights, {"q": 1, "p": 0}), wanted)
        self.assertEqual(value(drawing, weights, {"p": 1, "q": 0}),
                         11 * 2 * 5 + 13 * 2 * 7 + 17 * 5 * 5 + 19 * 5 * 7)

    def test_two_legs_that_are_joined(self):
        stock = loose(1)
        drawing = Drawing(stock, [], [("p", "a"), ("q", "a")], [(0, "a", 1, "a")])
        weights = Weights(stock, 3, {("a", 0, "a", 2): 9, ("a", 1, "a", 1): -4}, {})
        self.assertEqual(value(drawing, weights, {"p": 0, "q": 2}), 9)
        self.assertEqual(value(drawing, weights, {"p": 2, "q": 0}), 9)
        self.assertEqual(value(drawing, weights, {"p": 1, "q": 1}), -4)
        self.assertEqual(value(drawing, weights, {"p": 0, "q": 0}), 0)

    def test_without_anything(self):
        for stock in (loose(1), paired(), mixed()):
            for colours in (1, 2, 3):
                self.assertEqual(value(Drawing(stock, [], [], []), Weights(stock, colours, {}, {}), {}), 1)

    def test_what_is_left_out_is_0(self):
        stock = loose(2)
        loop = Drawing(stock, ["k"], [], [(0, "a", 0, "a")])
        join, corner = {("a", 0, "a", 0): 2}, {("k", (0, 0)): 3}
        self.assertEqual(value(loop, Weights(stock, 3, join, corner), {}), 6)
        self.assertEqual(value(loop, Weights(stock, 3, {}, corner), {}), 0)
        self.assertEqual(value(loop, Weights(stock, 3, join, {}), {}), 0)

    def test_great_numbers(self):
        stock = loose(5)
        drawing = Drawing(stock, ["k", "k"], [], [(0, "a", 1, "a")] * 5)
        weights = Weights(stock, 1, {("a", 0, "a", 0): -MOST}, {("k", (0,) * 5): MOST})
        self.assertEqual(value(drawing, weights, {}), -MOST ** 7)

    def test_renamed_ones_have_the_same(self):
        stock = mixed()
        joins = {key: at + 1 for at, key in enumerate(all_joins(stock, 2))}
        corners = {key: at + 2 for at, key in enumerate(all_corners(stock, 2))}
        weights = Weights(stock, 2, joins, corners)
        for drawing in unlike_drawings(stock, ["k", "l", "m"], [("p", "out")])[:6]:
            wanted = value(drawing, weights, {"p": 1})
            self.assertNotEqual(wanted, 0)
            for numbers in all_renamings(drawing):
                self.assertEqual(value(renamed(drawing, numbers), weights, {"p": 1}), wanted)

    def test_ten_ends_with_three_colours(self):
        """With 1 for all joins and corners the value is how many ways there are to colour."""
        for stock, corners in ((loose(5), ["k"] * 2), (loose(2), ["k"] * 5), (loose(4, 1), ["k", "l"] * 2),
                               (loose(3, 2, 1), ["k", "l", "k", "m", "m"]), (loose(5, 1), ["k"] + ["l"] * 5)):
            ones = [dict.fromkeys(keys, 1) for keys in (all_joins(stock, 3), all_corners(stock, 3))]
            weights = Weights(stock, 3, *ones)
            for drawing in unlike_drawings(stock, corners, [])[:40]:
                self.assertEqual(value(drawing, weights, {}), 3 ** 10)

    def test_ten_ends_in_another_way(self):
        """With numbers for joins that are products the ends' colours hang on their corner alone."""
        stock = loose(5)
        shares = [2, -3, 5]
        joins = {key: shares[key[1]] * shares[key[3]] for key in all_joins(stock, 3)}
        corners = numbered(all_corners(stock, 3), 0)
        alone = sum(corners["k", tuple(sorted(row))] * shares[row[0]] * shares[row[1]] * shares[row[2]]
                    * shares[row[3]] * shares[row[4]] for row in product(range(3), repeat=5))
        for drawing in unlike_drawings(stock, ["k", "k"], []):
            self.assertEqual(value(drawing, Weights(stock, 3, joins, corners), {}), alone ** 2)


class Sums(unittest.TestCase):
    def test_over_drawings_and_over_pairings(self):
        tried = 0
        for stock, corners, legs in every_kind_of_stock():
            if len(ends_of(stock, corners, legs)) > 8:
                continue
            for colours in (1, 2):
                weights = Weights(stock, colours, *some_weights(stock, colours, tried))
                worths = list(leg_colours(legs, colours))[-1]
                by_drawing = sum(Fraction(value(drawing, weights, worths), turns(drawing))
                                 for drawing in drawings(stock, corners, legs))
                by_pairing = sum(value(drawing_of(stock, corners, legs, pairing), weights, worths)
                                 for pairing in pairings(stock, corners, legs))
                self.assertEqual(by_drawing, Fraction(by_pairing, group(stock, corners)))
                tried += by_pairing != 0
        self.assertGreater(tried, 15)

    def test_of_ten_ends(self):
        stock = loose(3, 2, 1)
        weights = Weights(stock, 3, *some_weights(stock, 3, 2))
        corners, legs = ["k", "l", "k"], [("p", "a"), ("q", "a")]
        worths = {"p": 2, "q": 0}
        by_drawing = sum(Fraction(value(drawing, weights, worths), turns(drawing))
                         for drawing in drawings(stock, corners, legs))
        rows = [drawing.joins for drawing in drawings_by_pairing(stock, corners, legs)]
        unlike = unlike_drawings(stock, corners, legs)
        by_pairing = sum(value(drawing, weights, worths) * rows.count(drawing.joins) for drawing in unlike)
        self.assertEqual(by_drawing, Fraction(by_pairing, group(stock, corners)))
        self.assertNotEqual(by_pairing, 0)


class Refusals(unittest.TestCase):
    def setUp(self):
        self.stock = loose(2)
        self.drawing = Drawing(self.stock, ["k"], [("p", "a"), ("q", "a")], [(0, "a", 1, "a"), (0, "a", 2, "a")])
        self.weights = Weights(self.stock, 2, {("a", 0, "a", 0): 1}, {("k", (0, 0)): 1})

    def test_colours_of_just_all_legs(self):
        self.assertEqual(value(self.drawing, self.weights, {"q": 0, "p": 0}), 1)
        for legs in ({}, {"p": 0}, {"q": 0}, {"p": 0, "q": 0, "r": 0}, {"p": 0, "r": 0},
                     {"p": 0, "q": 0, 0: 0}, {"p": 0, "q": 0, None: 0}, {"p": 0, b"q": 0},
                     {"p": 0, "q": 2}, {"p": -1, "q": 0}, {"p": True, "q": 0}, {"p": 0, "q": False},
                     {"p": "0", "q": 0}, {"p": 0, "q": None}, {"p": 0.0, "q": 0}, {"p": 0, "q": [0]},
                     {("p", "a"): 0, ("q", "a"): 0}, {1: 0, 2: 0}, [("p", 0), ("q", 0)], [0, 0],
                     (0, 0), {"p", "q"}):
            with self.assertRaises(NoColours):
                value(self.drawing, self.weights, legs)

    def test_colours_of_anything(self):
        empty = Drawing(self.stock, [], [], [])
        for thing in odd_things():
            with self.assertRaises(NoColours):
                value(self.drawing, self.weights, thing)
            if thing != {}:
                with self.assertRaises(NoColours):
                    value(empty, self.weights, thing)
        with self.assertRaises(NoColours):
            value(empty, self.weights, {"p": 0})

    def test_stocks_that_are_not_equal(self):
        for stock in (loose(3), loose(2, 1), Stock([("b", "b")], [("k", ("b", "b"))])):
            with self.assertRaises(NoMatch):
                value(self.drawing, Weights(stock, 2, {}, {}), {"p": 0, "q": 0})
        same = Weights(loose(2), 2, {("a", 0, "a", 0): 4}, {("k", (0, 0)): 1})
        self.assertEqual(value(self.drawing, same, {"p": 0, "q": 0}), 16)

    def test_more_than_ten_ends(self):
        stock = loose(5, 1)
        weights = Weights(stock, 1, {("a", 0, "a", 0): 1}, {("k", (0,) * 5): 1, ("l", (0,)): 1})
        rows = [(0, "a", 1, "a")] * 5
        fitting = Drawing(stock, ["k", "k"], [("p", "a"), ("q", "a")], rows + [(2, "a", 3, "a")])
        self.assertEqual(value(fitting, weights, {"p": 0, "q": 0}), 1)
        eleven = Drawing(stock, ["k", "k", "l"], [("p", "a")], rows + [(2, "a", 3, "a")])
        twelve = Drawing(stock, ["k", "k", "l", "l"], [], rows + [(2, "a", 3, "a")])
        with self.assertRaises(TooMany):
            value(eleven, weights, {"p": 0})
        with self.assertRaises(TooMany):
            value(twelve, weights, {})

    def test_which_is_told_first(self):
        stock = loose(5, 1)
        weights = Weights(stock, 1, {}, {})
        eleven = Drawing(stock, ["k", "k", "l"], [("p", "a")], [(0, "a", 1, "a")] * 5 + [(2, "a", 3, "a")])
        for legs, weighing, refusal in (({"p": 0}, weights, TooMany), ({}, weights, NoColours),
                                        (None, self.weights, NoMatch), ({"p": 0}, self.weights, NoMatch)):
            with self.assertRaises(refusal):
                value(eleven, weighing, legs)

    def test_what_is_refused_changes_nothing(self):
        before = contents(self.drawing)
        legs = {"p": 0, "q": True}
        with self.assertRaises(EndError):
            value(self.drawing, self.weights, legs)
        self.assertIs(legs["q"], True)
        self.assertEqual(contents(self.drawing), before)
        self.assertEqual(value(self.drawing, self.weights, {"p": 0, "q": 0}), 1)


if __name__ == "__main__":
    unittest.main()
