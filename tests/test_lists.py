"""[5.1] drawings and sum_all, and [0.3] as far as it reaches them."""

import unittest
from fractions import Fraction
from itertools import permutations

from endsum.drawings import Drawing
from endsum.errors import EndError, NoDrawing, TooMany
from endsum.likeness import alike, least, turns
from endsum.lists import drawings, sum_all
from endsum.pairings import count, group
from endsum.stocks import Stock
from tests.samples import (contents, drawings_by_pairing, every_kind_of_stock, loose, mixed,
                           odd_things, paired, told, unlike_drawings)

LEGS = [("x", "a"), ("y", "a")]
SIX = [(name, "a") for name in "uvwxyz"]


class Drawings(unittest.TestCase):
    def test_against_going_through_all_pairings(self):
        for stock, corners, legs in every_kind_of_stock():
            before = repr((corners, legs))
            listed = drawings(stock, corners, legs)
            wanted = {tuple(least(drawing).joins) for drawing in drawings_by_pairing(stock, corners, legs)}
            self.assertEqual([tuple(drawing.joins) for drawing in listed], sorted(wanted))
            self.assertEqual(repr((corners, legs)), before)

    def test_each_is_least_and_no_two_are_alike(self):
        for stock, corners, legs in every_kind_of_stock():
            listed = drawings(stock, corners, legs)
            for at, drawing in enumerate(listed):
                self.assertEqual(least(drawing), drawing)
                self.assertEqual((drawing.corners, drawing.legs), (sorted(corners), legs))
                self.assertEqual(drawing.stock, stock)
                self.assertEqual([alike(drawing, other) is None for other in listed],
                                 [to != at for to in range(len(listed))])

    def test_each_drawing_is_alike_to_just_one(self):
        for stock, corners, legs in every_kind_of_stock():
            listed = drawings(stock, corners, legs)
            for drawing in unlike_drawings(stock, corners, legs)[:30]:
                found = [other for other in listed if alike(drawing, other) is not None]
                self.assertEqual(len(found), 1)

    def test_the_order_of_corners_does_not_matter(self):
        stock = loose(3, 1)
        rows = drawings(stock, ["k", "k", "l", "l"], [])
        self.assertTrue(rows)
        for corners in permutations(["k", "k", "l", "l"]):
            self.assertEqual(drawings(stock, list(corners), []), rows)

    def test_known_numbers(self):
        self.assertEqual(len(drawings(loose(3), ["k", "k"], [])), 2)
        self.assertEqual(len(drawings(loose(3), ["k"] * 4, [])), 8)
        self.assertEqual(len(drawings(loose(4), ["k"] * 3, [])), 7)
        # rounds of corners with two ends: the ways to split six
        self.assertEqual(len(drawings(loose(2), ["k"] * 6, [])), 11)
        self.assertEqual(len(drawings(paired(), ["k"] * 6, [])), 11)
        self.assertEqual(len(drawings(loose(1), ["k"] * 6, SIX)), 76)
        self.assertEqual(len(drawings(loose(1, 1, 1, 1), list("kkllmn"), SIX)), 3150)

    def test_the_examples(self):
        rows = [drawing.joins for drawing in drawings(loose(3), ["k", "k"], [])]
        self.assertEqual(rows, [[(0, "a", 0, "a"), (0, "a", 1, "a"), (1, "a", 1, "a")],
                                [(0, "a", 1, "a")] * 3])

    def test_of_nothing_and_none(self):
        self.assertEqual(drawings(loose(3), [], []), [Drawing(loose(3), [], [], [])])
        self.assertEqual(drawings(loose(3), ["k"], []), [])
        self.assertEqual(drawings(paired(), ["l"], []), [])
        self.assertEqual(drawings(paired(), [], [("p", "in"), ("q", "in")]), [])
        self.assertEqual(len(drawings(loose(3), [], SIX)), 15)

    def test_too_many(self):
        for stock, corners, legs in [(loose(3), ["k"] * 4, LEGS[:1]), (loose(5), ["k"] * 6, SIX),
                                     (loose(3), ["k"] * 5, []), (loose(2), ["k"] * 4, SIX[1:]),
                                     (mixed(), ["k"] * 3, [("p", "in")])]:
            with self.assertRaises(TooMany) as caught:
                drawings(stock, corners, legs)
            self.assertIsInstance(caught.exception, EndError)
            sum_all(stock, corners, legs)

    def test_what_is_told_is_the_askers_own(self):
        first = drawings(loose(3), ["k", "k"], LEGS)
        before = [contents(drawing) for drawing in first]
        for drawing in first:
            del drawing.corners[:], drawing.joins[:], drawing.legs[:]
        first.clear()
        self.assertEqual([contents(drawing) for drawing in drawings(loose(3), ["k", "k"], LEGS)], before)

    def test_what_is_done_behind_the_call_changes_nothing(self):
        corners, legs = ["k", "k"], list(LEGS)
        rows = drawings(loose(3), corners, legs)
        before = [contents(drawing) for drawing in rows]
        corners.clear()
        legs.clear()
        self.assertEqual([contents(drawing) for drawing in rows], before)


class Refusals(unittest.TestCase):
    def refused(self, call, part):
        with self.assertRaises(NoDrawing) as caught:
            call()
        self.assertEqual(caught.exception.part, part)

    def test_no_corners_come_first(self):
        for corners in odd_things() + [["l"], ["k"] * 7, ("k",), ["k", None]]:
            before = repr(corners)
            for legs in (LEGS, None, [("x", "b")]):
                self.refused(lambda: drawings(loose(5), corners, legs), "corners")
                self.refused(lambda: sum_all(loose(5), corners, legs), "corners")
            self.assertEqual(repr(corners), before)

    def test_then_no_legs(self):
        for legs in odd_things() + [LEGS[::-1], LEGS[:1] * 2, [("x", "b")], SIX + [("zz", "a")]]:
            before = repr(legs)
            for corners in (["k"], ["k"] * 6):
                self.refused(lambda: drawings(loose(5), corners, legs), "legs")
                self.refused(lambda: sum_all(loose(5), corners, legs), "legs")
            self.assertEqual(repr(legs), before)


class SumAll(unittest.TestCase):
    def test_it_is_the_sum_over_the_drawings(self):
        for stock, corners, legs in every_kind_of_stock():
            total = sum([Fraction(1, turns(drawing)) for drawing in drawings(stock, corners, legs)],
                        Fraction(0))
            self.assertEqual(sum_all(stock, corners, legs), told(total))

    def test_known_numbers(self):
        self.assertEqual(sum_all(loose(3), ["k", "k"], []), (5, 24))
        self.assertEqual(sum_all(loose(3), [], []), (1, 1))
        self.assertEqual(sum_all(loose(3), [], SIX), (15, 1))
        self.assertEqual(sum_all(loose(3), ["k"], []), (0, 1))
        self.assertEqual(sum_all(paired(), ["l"], []), (0, 1))

    def test_it_is_count_over_group_of_many_ends(self):
        for stock, corners, legs in [(loose(5), ["k"] * 6, SIX), (loose(5), ["k"] * 6, SIX[:5]),
                                     (loose(5, 4, 3, 2), list("kklmnk"), SIX[:1]),
                                     (mixed(), ["k"] * 6, [("p", "in"), ("q", "out")])]:
            told_sum = sum_all(stock, corners, legs)
            self.assertEqual(told_sum, told(Fraction(count(stock, corners, legs), group(stock, corners))))
            self.assertIs(told_sum.__class__, tuple)
            self.assertEqual([part.__class__ for part in told_sum], [int, int])

    def test_of_twelve_ends(self):
        stock = Stock([("a", "a")], [("k", ("a",)), ("l", ("a",)), ("m", ("a", "a")), ("n", ("a", "a"))])
        for corners, legs in [(list("klmn"), SIX), (list("kkllmm"), SIX[:4]), (list("mmmmmm"), [])]:
            total = sum([Fraction(1, turns(drawing)) for drawing in drawings(stock, corners, legs)],
                        Fraction(0))
            self.assertEqual(sum_all(stock, corners, legs), told(total))


if __name__ == "__main__":
    unittest.main()
