"""[0.3] Of anything: also of things that call themselves equal to all, or can't be compared."""

import unittest

from endsum.desk import Desk
from endsum.drawings import Drawing, renamed
from endsum.errors import (EndError, NoColours, NoCounts, NoDrawing, NoJoin, NoLeg, NoName, NoNumbers,
                           NoPairing, NoRenaming, NoRow, NoStock, NoText, NoWeights)
from endsum.lists import drawings, sum_all
from endsum.pairings import count, drawing_of, group, pairings
from endsum.parts import cut, join_legs
from endsum.series import all_sums, free_sums, whole_sums
from endsum.stocks import Stock
from endsum.texts import read_drawing, read_stock
from endsum.trees import tree_sum
from endsum.values import Weights, value
from tests.samples import LOOSE, contents, loose


class Equal:
    """Equal to all, and before and behind all."""

    def __eq__(self, other):
        return True

    def __lt__(self, other):
        return True

    __le__ = __gt__ = __ge__ = __lt__

    def __hash__(self):
        return hash("a")


class Shy:
    """Compared with nothing."""

    def __eq__(self, other):
        raise RuntimeError("not to be compared")

    __lt__ = __le__ = __gt__ = __ge__ = __eq__

    def __hash__(self):
        return hash("a")


KINDS = [("k", ("a", "a"))]
LOOP = [(0, "a", 0, "a")]


class OddThings(unittest.TestCase):
    def setUp(self):
        self.stock = loose(2)
        self.loop = Drawing(self.stock, ["k"], [], LOOP)
        self.legged = Drawing(self.stock, ["k"], [("x", "a"), ("y", "a")], [(0, "a", 1, "a"), (0, "a", 2, "a")])

    def refused(self, refusal, part, task, *args):
        with self.assertRaises(EndError) as caught:
            task(*args)
        self.assertIs(caught.exception.__class__, refusal)
        if part is not None:
            self.assertEqual(caught.exception.part, part)

    def test_stocks(self):
        for odd in (Equal(), Shy()):
            for sorts in (odd, [odd], [(odd, odd)], [("a", odd)], [(odd, "a")]):
                self.refused(NoStock, "sorts", Stock, sorts, KINDS)
            for kinds in (odd, [odd], [("k", odd)], [("k", (odd,))], [(odd, ("a",))]):
                self.refused(NoStock, "kinds", Stock, LOOSE, kinds)

    def test_drawings(self):
        for odd in (Equal(), Shy()):
            for corners in (odd, [odd]):
                self.refused(NoDrawing, "corners", Drawing, self.stock, corners, [], LOOP)
            for legs in (odd, [odd], [(odd, "a"), ("y", "a")], [("x", odd), ("y", "a")]):
                self.refused(NoDrawing, "legs", Drawing, self.stock, [], legs, [(0, "a", 1, "a")])
            for joins in (odd, [odd], [(odd, "a", 0, "a")], [(0, odd, 0, "a")], [(0, "a", odd, "a")],
                          [(0, "a", 0, odd)], [(0, odd, 0, odd)], [(odd,) * 4]):
                self.refused(NoDrawing, "joins", Drawing, self.stock, ["k"], [], joins)
            for numbers in (odd, (odd,)):
                self.refused(NoRenaming, None, renamed, self.loop, numbers)

    def test_corners_and_legs(self):
        for odd in (Equal(), Shy()):
            for task in (count, pairings, drawings, sum_all):
                self.refused(NoDrawing, "corners", task, self.stock, [odd], [])
                self.refused(NoDrawing, "legs", task, self.stock, [], [(odd, "a")])
            self.refused(NoDrawing, "corners", group, self.stock, [odd])
            for pairing in (odd, [odd], [(0, odd)], [(odd, 1)]):
                self.refused(NoPairing, None, drawing_of, self.stock, ["k"], [], pairing)
            for task in (all_sums, whole_sums, free_sums):
                self.refused(NoCounts, None, task, self.stock, odd, [])
                self.refused(NoCounts, None, task, self.stock, (odd,), [])
                self.refused(NoDrawing, "legs", task, self.stock, (1,), [("x", odd)])

    def test_cutting_and_joining(self):
        for odd in (Equal(), Shy()):
            for join in (odd, (odd, "a", 0, "a"), (0, odd, 0, odd), (0, "a", 0, odd), (0, odd, 0, "a")):
                self.refused(NoJoin, None, cut, self.loop, join, ("x", "y"))
            for names in (odd, (odd, "y"), ("x", odd), (odd, odd)):
                self.refused(NoName, None, cut, self.loop, LOOP[0], names)
            self.refused(NoLeg, None, join_legs, self.legged, odd, "y")
            self.refused(NoLeg, None, join_legs, self.legged, "x", odd)
            self.refused(NoLeg, None, join_legs, self.legged, odd, odd)
        self.assertEqual(contents(self.loop)[4], LOOP)

    def test_weights_and_values(self):
        weights = Weights(self.stock, 2, {}, {})
        for odd in (Equal(), Shy()):
            self.refused(NoWeights, "colours", Weights, self.stock, odd, {}, {})
            for joins in (odd, {odd: 1}, {("a", 0, "a", 0): odd}, {(odd, 0, odd, 0): 1}, {("a", 0, odd, 0): 1},
                          {("a", odd, "a", 1): 1}, {("a", 0, "a", odd): 1}):
                self.refused(NoWeights, "joins", Weights, self.stock, 2, joins, {})
            for corners in (odd, {odd: 1}, {("k", (0, 0)): odd}, {(odd, (0, 0)): 1}, {("k", odd): 1},
                            {("k", (0, odd)): 1}):
                self.refused(NoWeights, "corners", Weights, self.stock, 2, {}, corners)
            for legs in (odd, {"x": 0, odd: 0}, {"x": 0, "y": odd}):
                self.refused(NoColours, None, value, self.legged, weights, legs)
            self.refused(NoColours, None, value, self.loop, weights, odd)

    def test_numbers_texts_and_rows(self):
        desk = Desk()
        desk.say("stock sort a a / kind k a a")
        for odd in (Equal(), Shy()):
            self.refused(NoNumbers, None, tree_sum, self.loop, odd)
            self.refused(NoNumbers, None, tree_sum, self.loop, [odd])
            self.refused(NoText, None, read_stock, odd)
            self.refused(NoText, None, read_drawing, self.stock, odd)
            self.refused(NoRow, None, desk.say, odd)


if __name__ == "__main__":
    unittest.main()
