"""[2.1] Drawings, [2.2] renamed and beside, and [0.3] as far as it reaches them."""

import unittest
from itertools import permutations

from endsum.drawings import Drawing, beside, renamed
from endsum.errors import EndError, NoDrawing, NoMatch, NoRenaming, NoStock, TooMany
from endsum.stocks import Stock
from tests.samples import (PAIRED, all_renamings, contents, loose, mixed, odd_things, paired,
                           renamed_plainly, unlike_drawings)

STOCK = Stock([("a", "a"), ("in", "out"), ("out", "in")],
              [("k", ("a", "in")), ("l", ("a", "a", "out")), ("m", ("out",))])
CORNERS = ["k", "l", "k"]
LEGS = [("w", "a"), ("x", "a"), ("y", "out")]
JOINS = [(0, "a", 1, "a"), (0, "in", 1, "out"), (1, "a", 2, "a"), (2, "in", 5, "out"),
         (3, "a", 4, "a")]

NO_CORNERS = [
    ("k",), "k", {"k": 1}, ["k"] * 7, ["k", "n"], ["kl"], [""], ["K"], ["k", None], ["k", 0],
    ["k", True], ["k", b"k"], ["k", ["k"]], ["k", ("k",)], ["k", {}], ["a"],
    ["k", ("a", "in")], ["k"] * 300, [("k", ("a", "in"))],
]

NO_LEGS = [
    (("x", "a"),), {"x": "a"}, [["x", "a"]], [("x",)], [("x", "a", "a")], [()], ["xa"],
    [("x", "b")], [("x", "k")], [("x", "")], [("x", None)], [("x", 1)], [("x", b"a")],
    [("x", ["a"])], [("x", {})], [("x", ("a",))], [("", "a")], [("X", "a")], [("x1", "a")],
    [("abcdefghi", "a")], [(1, "a")], [(True, "a")], [(None, "a")], [(b"x", "a")],
    [(["x"], "a")], [("x", "a"), None], [("x", "a"), ("x", "a")], [("x", "a"), ("x", "in")],
    [("y", "a"), ("x", "a")], [("x", "in"), ("x", "a")], [("y", "a"), ("x", "in")],
    [("abcdefg"[:at + 1], "a") for at in range(7)], [("x", "a")] * 300,
]


def spoiled(at, *rows):
    """JOINS with other rows in the place of one, sorted where they can be."""
    joins = JOINS[:at] + list(rows) + JOINS[at + 1:]
    try:
        return sorted(joins)
    except TypeError:
        return joins


NO_JOINS = [
    [], JOINS[:-1], JOINS + JOINS[-1:], JOINS[1:] + JOINS[:1], list(reversed(JOINS)),
    tuple(JOINS), [list(row) for row in JOINS], [row[:3] for row in JOINS],
    [row + ("a",) for row in JOINS], [(row[:2], row[2:]) for row in JOINS],
    # an end twice, another one missing
    spoiled(0, (1, "a", 1, "a")), spoiled(2, (1, "a", 1, "a")), spoiled(4, (3, "a", 3, "a")),
    spoiled(4, (4, "a", 4, "a")), spoiled(4), spoiled(0), spoiled(0, JOINS[0], JOINS[0]),
    # each end once, but sorts that are no partners
    sorted([(0, "a", 1, "out"), (0, "in", 1, "a")] + JOINS[2:]),
    sorted([JOINS[0], (0, "in", 2, "in"), JOINS[2], (1, "out", 5, "out"), JOINS[4]]),
    # the greater end first
    spoiled(0, (1, "a", 0, "a")), spoiled(2, (2, "a", 1, "a")), spoiled(3, (5, "out", 2, "in")),
    spoiled(4, (4, "a", 3, "a")),
    # places that are none
    spoiled(3, (2, "in", 6, "out")), spoiled(3, (2, "in", -1, "out")),
    spoiled(3, (-1, "out", 2, "in")), spoiled(0, (-6, "a", 1, "a")),
    spoiled(3, (2, "in", 10 ** 17, "out")), spoiled(4, (3, "a", 4, "a"), (6, "a", 7, "a")),
    # truths, broken numbers and other things for places
    spoiled(0, (False, "a", 1, "a")), spoiled(0, (0, "a", True, "a")),
    spoiled(0, (0.0, "a", 1, "a")), spoiled(0, (0, "a", 1.0, "a")),
    spoiled(0, ("0", "a", 1, "a")), spoiled(0, (None, "a", 1, "a")),
    spoiled(0, ([], "a", {}, "a")), spoiled(0, ((0,), "a", (1,), "a")),
    # other things for sorts
    spoiled(0, (0, "b", 1, "b")), spoiled(0, (0, "a", 1, None)), spoiled(0, (0, None, 1, "a")),
    spoiled(0, (0, ["a"], 1, ["a"])), spoiled(0, (0, b"a", 1, b"a")), spoiled(0, (0, 0, 1, 0)),
    spoiled(0, (0, {}, 1, "a")), spoiled(0, (0, "A", 1, "A")), spoiled(0, (0, "", 1, "")),
    spoiled(4, None), JOINS * 60,
]


def legged():
    """A drawing with corners of two kinds, a leg at one, and two legs joined."""
    return Drawing(STOCK, CORNERS, LEGS, JOINS)


class Made(unittest.TestCase):
    def kept(self, stock, corners, legs, joins):
        drawing = Drawing(stock, corners, legs, joins)
        self.assertEqual((drawing.corners, drawing.legs, drawing.joins), (corners, legs, joins))
        self.assertIs(drawing.stock, stock)
        for value in (drawing.corners, drawing.legs, drawing.joins):
            self.assertIs(value.__class__, list)

    def test_values_are_as_handed_in(self):
        self.kept(STOCK, CORNERS, LEGS, JOINS)
        self.kept(STOCK, ["m", "k"], [("x", "a")], [(0, "out", 1, "in"), (1, "a", 2, "a")])

    def test_without_corners_and_legs(self):
        self.kept(STOCK, [], [], [])

    def test_a_corner_may_be_joined_with_itself(self):
        self.kept(loose(2), ["k"], [], [(0, "a", 0, "a")])
        self.kept(paired(), ["k"], [], [(0, "in", 0, "out")])
        self.kept(loose(5), ["k"], [("x", "a")], [(0, "a", 0, "a")] * 2 + [(0, "a", 1, "a")])

    def test_a_join_may_stand_there_several_times(self):
        self.kept(loose(5), ["k", "k"], [], [(0, "a", 1, "a")] * 5)
        self.kept(loose(4), ["k"], [], [(0, "a", 0, "a")] * 2)

    def test_two_legs_may_be_joined(self):
        self.kept(loose(1), [], [("x", "a"), ("y", "a")], [(0, "a", 1, "a")])
        self.kept(paired(), [], [("x", "out"), ("y", "in")], [(0, "out", 1, "in")])
        self.kept(loose(2), ["k"], [("x", "a"), ("y", "a")], [(0, "a", 0, "a"), (1, "a", 2, "a")])

    def test_at_the_limits(self):
        pairs = [(at, other) for at in range(6) for other in range(at + 1, 6)]
        self.kept(loose(5), ["k"] * 6, [], [(at, "a", other, "a") for at, other in pairs])
        legs = [(name, "a") for name in ("abcdefgh", "b", "bb", "c", "d", "e")]
        self.kept(loose(5), ["k"] * 6, legs,
                  sorted([(at, "a", at, "a") for at in range(6)] * 2
                         + [(at, "a", 6 + at, "a") for at in range(6)]))
        self.kept(loose(1), ["k"] * 6, legs, [(at, "a", 11 - at, "a") for at in range(6)])

    def test_a_leg_may_be_called_as_a_sort_or_kind(self):
        self.kept(loose(1), ["k"], [("k", "a")], [(0, "a", 1, "a")])
        self.kept(loose(1), ["k"], [("a", "a")], [(0, "a", 1, "a")])

    def test_what_is_handed_in_stays(self):
        corners, legs, joins = list(CORNERS), list(LEGS), list(JOINS)
        before = repr((corners, legs, joins, STOCK.sorts, STOCK.kinds))
        Drawing(STOCK, corners, legs, joins)
        self.assertEqual(repr((corners, legs, joins, STOCK.sorts, STOCK.kinds)), before)

    def test_what_is_done_behind_the_call_changes_nothing(self):
        corners, legs, joins = ["k"], [("x", "a"), ("y", "a")], [(0, "a", 1, "a"), (0, "a", 2, "a")]
        drawing = Drawing(loose(2), corners, legs, joins)
        before = contents(drawing)
        corners.append("k")
        legs[0] = None
        del joins[:]
        self.assertEqual(contents(drawing), before)


class Refused(unittest.TestCase):
    def refused(self, corners, legs, joins, part):
        before = repr((corners, legs, joins))
        with self.assertRaises(NoDrawing, msg=before) as caught:
            Drawing(STOCK, corners, legs, joins)
        self.assertEqual(caught.exception.part, part, before)
        self.assertIsInstance(caught.exception, EndError)
        self.assertNotIsInstance(caught.exception, NoStock)
        self.assertEqual(repr((corners, legs, joins)), before)

    def test_no_corners(self):
        for corners in NO_CORNERS + odd_things():
            self.refused(corners, LEGS, JOINS, "corners")

    def test_no_legs(self):
        for legs in NO_LEGS + odd_things():
            self.refused(CORNERS, legs, JOINS, "legs")

    def test_no_joins(self):
        Drawing(STOCK, CORNERS, LEGS, JOINS)
        for joins in NO_JOINS + odd_things():
            self.refused(CORNERS, LEGS, joins, "joins")

    def test_joins_spoiled_in_one_place(self):
        for at, row in enumerate(JOINS):
            for spot in range(4):
                for worth in (None, True, False, 1.0, "", "b", -1, 6, [], {}, (), b"a", STOCK):
                    rows = [row[:spot] + (worth,) + row[spot + 1:]]
                    self.refused(CORNERS, LEGS, spoiled(at, *rows), "joins")

    def test_self_joins_with_other_things_for_sorts(self):
        for one in (None, 1, True, b"in", ["in"], ("in",), {}, "in"):
            for other in (None, 1, True, b"out", ["out"], ("out",), {}, "in", "out"):
                if (one, other) != ("in", "out"):
                    with self.assertRaises(NoDrawing) as caught:
                        Drawing(paired(), ["k"], [], [(0, one, 0, other)])
                    self.assertEqual(caught.exception.part, "joins")

    def test_joins_out_of_order_or_turned(self):
        for joins in permutations(JOINS):
            if list(joins) != JOINS:
                self.refused(CORNERS, LEGS, list(joins), "joins")
        for at, row in enumerate(JOINS):
            turned = JOINS[:at] + [row[2:] + row[:2]] + JOINS[at + 1:]
            self.refused(CORNERS, LEGS, turned, "joins")
            self.refused(CORNERS, LEGS, sorted(turned), "joins")

    def test_ends_of_a_self_join_stand_in_order(self):
        Drawing(paired(), ["k"], [], [(0, "in", 0, "out")])
        with self.assertRaises(NoDrawing) as caught:
            Drawing(paired(), ["k"], [], [(0, "out", 0, "in")])
        self.assertEqual(caught.exception.part, "joins")

    def test_each_end_stands_just_once(self):
        stock = loose(3)
        for joins in ([(0, "a", 0, "a")], [(0, "a", 1, "a")], [(0, "a", 0, "a")] * 2,
                      [(0, "a", 1, "a")] * 2, [(0, "a", 1, "a")] * 4,
                      [(0, "a", 0, "a"), (0, "a", 1, "a")], [(0, "a", 1, "a"), (1, "a", 1, "a")],
                      [(0, "a", 0, "a"), (0, "a", 1, "a"), (0, "a", 1, "a")]):
            with self.assertRaises(NoDrawing) as caught:
                Drawing(stock, ["k", "k"], [], joins)
            self.assertEqual(caught.exception.part, "joins")
        with self.assertRaises(NoDrawing):
            Drawing(loose(1), ["k"], [("x", "a"), ("y", "a"), ("z", "a")],
                    [(0, "a", 1, "a"), (1, "a", 2, "a"), (3, "a", 3, "a")])
        with self.assertRaises(NoDrawing):
            Drawing(loose(1), [], [], [(0, "a", 0, "a")])

    def test_the_first_part_is_told(self):
        for corners in NO_CORNERS:
            for legs in (NO_LEGS[0], None, LEGS):
                self.refused(corners, legs, None, "corners")
        for legs in NO_LEGS:
            for joins in (None, JOINS, []):
                self.refused(CORNERS, legs, joins, "legs")


class Equal(unittest.TestCase):
    def test_equal_where_all_four_are(self):
        self.assertIs(legged() == legged(), True)
        self.assertIs(legged() != legged(), False)
        self.assertIs(Drawing(mixed(), [], [], []) == Drawing(mixed(), [], [], []), True)

    def test_unequal_where_one_is_not(self):
        kinds = [("k", ("a",)), ("l", ("a",))]
        stock = Stock([("a", "a")], kinds)
        legs = [("x", "a"), ("y", "a")]
        joins = [(0, "a", 2, "a"), (1, "a", 3, "a")]
        drawing = Drawing(stock, ["k", "l"], legs, joins)
        others = [
            Drawing(Stock([("a", "a")], kinds[::-1]), ["k", "l"], legs, joins),
            Drawing(stock, ["l", "k"], legs, joins),
            Drawing(stock, ["k", "k"], legs, joins),
            Drawing(stock, ["k", "l"], [("x", "a"), ("z", "a")], joins),
            Drawing(stock, ["k", "l"], legs, [(0, "a", 3, "a"), (1, "a", 2, "a")]),
            Drawing(stock, ["k", "l"], legs, [(0, "a", 1, "a"), (2, "a", 3, "a")]),
            Drawing(stock, [], [], []),
        ]
        for other in others:
            self.assertIs(drawing == other, False)
            self.assertIs(other == drawing, False)
            self.assertIs(drawing != other, True)

    def test_unequal_to_what_is_no_drawing(self):
        drawing = Drawing(loose(2), [], [], [])
        others = [thing for thing in odd_things() if not isinstance(thing, Drawing)]
        for other in others + [drawing.stock, [drawing], (loose(2), [], [], [])]:
            self.assertIs(drawing == other, False)
            self.assertIs(other == drawing, False)
            self.assertIs(drawing != other, True)


class Renamed(unittest.TestCase):
    def test_corner_gets_its_number_with_kind_and_joins(self):
        stock = Stock([("a", "a")], [("k", ("a",)), ("l", ("a", "a")), ("m", ("a",))])
        drawing = Drawing(stock, ["k", "l", "m"], [], [(0, "a", 1, "a"), (1, "a", 2, "a")])
        told = renamed(drawing, (2, 0, 1))
        self.assertEqual(told.corners, ["l", "m", "k"])
        self.assertEqual(told.joins, [(0, "a", 1, "a"), (0, "a", 2, "a")])

    def test_legs_stay_and_joins_are_put_in_order(self):
        told = renamed(legged(), (1, 2, 0))
        self.assertEqual(told, Drawing(STOCK, ["k", "k", "l"], LEGS, [
            (0, "a", 2, "a"), (0, "in", 5, "out"), (1, "a", 2, "a"), (1, "in", 2, "out"),
            (3, "a", 4, "a")]))

    def test_all_renamings_of_many_drawings(self):
        legs = [("p", "out"), ("q", "z")]
        drawings = unlike_drawings(mixed(), ["k", "m", "l", "l"], legs)
        self.assertEqual(len(drawings), 18)
        for drawing in drawings:
            for numbers in all_renamings(drawing):
                before = contents(drawing)
                told = renamed(drawing, numbers)
                self.assertEqual((told.corners, told.joins), renamed_plainly(drawing, numbers))
                self.assertEqual((told.stock, told.legs), (drawing.stock, drawing.legs))
                self.assertEqual(contents(drawing), before)

    def test_without_corners(self):
        drawing = Drawing(loose(1), [], [("x", "a"), ("y", "a")], [(0, "a", 1, "a")])
        self.assertEqual(renamed(drawing, ()), drawing)
        with self.assertRaises(NoRenaming):
            renamed(drawing, (0,))

    def test_what_is_told_is_the_askers_own(self):
        drawing = legged()
        told = renamed(drawing, (0, 1, 2))
        self.assertEqual(told, drawing)
        for mine, its in ((told.corners, drawing.corners), (told.legs, drawing.legs),
                          (told.joins, drawing.joins)):
            self.assertIsNot(mine, its)

    def test_what_is_no_renaming(self):
        drawing = legged()
        wrong = [(), (0,), (0, 1), (0, 1, 2, 3), (0, 1, 1), (0, 0, 0), (1, 2, 3), (-1, 0, 1),
                 (0, 1, -1), (0, 1, 10 ** 17), [0, 1, 2], "012", b"\x00\x01\x02", {0: 0, 1: 1, 2: 2},
                 (0, True, 2), (False, 1, 2), (False, True, 2), (0, 1.0, 2), (0, "1", 2),
                 (0, None, 2), (0, 1, [2]), (0, 1, {}), (0, 1, (2,)), (0, 1, drawing), range(3),
                 ((0, 1, 2),), tuple(range(300)), drawing]
        before = contents(drawing)
        for numbers in wrong + odd_things():
            with self.assertRaises(NoRenaming, msg=repr(numbers)):
                renamed(drawing, numbers)
        self.assertEqual(contents(drawing), before)

    def test_a_truth_is_no_number_of_the_only_corner(self):
        drawing = Drawing(loose(2), ["k"], [], [(0, "a", 0, "a")])
        for numbers in ((False,), (0.0,), (1,), (True,), 0, [0], None):
            with self.assertRaises(NoRenaming):
                renamed(drawing, numbers)
        self.assertEqual(renamed(drawing, (0,)), drawing)


class Beside(unittest.TestCase):
    def test_corners_of_one_then_of_other_and_legs_sorted(self):
        stock = loose(2, 1)
        one = Drawing(stock, ["k"], [("c", "a"), ("e", "a")], [(0, "a", 1, "a"), (0, "a", 2, "a")])
        other = Drawing(stock, ["l", "k"], [("a", "a"), ("b", "a"), ("d", "a")],
                        [(0, "a", 4, "a"), (1, "a", 2, "a"), (1, "a", 3, "a")])
        # the places of all legs: 3 is a, 4 is b, 5 is c, 6 is d, 7 is e
        self.assertEqual(beside(one, other), Drawing(
            stock, ["k", "l", "k"], [(name, "a") for name in "abcde"],
            [(0, "a", 5, "a"), (0, "a", 7, "a"), (1, "a", 6, "a"), (2, "a", 3, "a"),
             (2, "a", 4, "a")]))
        self.assertEqual(beside(other, one), Drawing(
            stock, ["l", "k", "k"], [(name, "a") for name in "abcde"],
            [(0, "a", 6, "a"), (1, "a", 3, "a"), (1, "a", 4, "a"), (2, "a", 5, "a"),
             (2, "a", 7, "a")]))

    def test_joins_of_two_legs_are_put_in_order(self):
        one = Drawing(paired(), [], [("b", "in"), ("d", "out")], [(0, "in", 1, "out")])
        other = Drawing(paired(), ["k"], [("a", "out"), ("c", "in")],
                        [(0, "in", 1, "out"), (0, "out", 2, "in")])
        self.assertEqual(beside(one, other).joins,
                         [(0, "in", 1, "out"), (0, "out", 3, "in"), (2, "in", 4, "out")])

    def test_with_the_drawing_without_anything(self):
        empty = Drawing(STOCK, [], [], [])
        self.assertEqual(beside(empty, legged()), legged())
        self.assertEqual(beside(legged(), empty), legged())
        self.assertEqual(beside(empty, empty), empty)

    def test_with_itself(self):
        drawing = Drawing(loose(2), ["k"], [], [(0, "a", 0, "a")])
        self.assertEqual(beside(drawing, drawing).joins, [(0, "a", 0, "a"), (1, "a", 1, "a")])

    def test_drawings_stay_and_what_is_told_is_new(self):
        one, other = legged(), Drawing(STOCK, [], [], [])
        before = contents(one), contents(other)
        told = beside(one, other)
        self.assertEqual((contents(one), contents(other)), before)
        self.assertIsNot(told.corners, one.corners)
        self.assertIsNot(told.legs, one.legs)
        self.assertIsNot(told.joins, one.joins)

    def test_at_the_limits(self):
        stock = loose(1)
        three = [Drawing(stock, ["k"] * 3, [(name, "a") for name in names],
                         [(at, "a", 3 + at, "a") for at in range(3)]) for names in ("abc", "def")]
        told = beside(three[0], three[1])
        self.assertEqual((len(told.corners), len(told.legs)), (6, 6))

    def test_no_match(self):
        stock = loose(1)
        legs = [("x", "a"), ("y", "a")]
        one = Drawing(stock, [], legs, [(0, "a", 1, "a")])
        for other in (one, Drawing(stock, ["k"], [("y", "a")], [(0, "a", 1, "a")]),
                      Drawing(loose(2), [], [], []), Drawing(paired(), [], [], []),
                      Drawing(Stock(PAIRED, [("k", ("in",))]), [], [], [])):
            for first, second in ((one, other), (other, one)):
                with self.assertRaises(NoMatch):
                    beside(first, second)

    def test_a_name_in_both_with_unlike_sorts_is_no_match(self):
        one = Drawing(paired(), [], [("x", "in"), ("y", "out")], [(0, "in", 1, "out")])
        other = Drawing(paired(), [], [("v", "in"), ("x", "out")], [(0, "in", 1, "out")])
        with self.assertRaises(NoMatch):
            beside(one, other)

    def test_too_many(self):
        stock = loose(2)
        four = Drawing(stock, ["k"] * 4, [], [(at, "a", at, "a") for at in range(4)])
        three = Drawing(stock, ["k"] * 3, [], [(at, "a", at, "a") for at in range(3)])
        with self.assertRaises(TooMany):
            beside(four, three)
        four, three = [Drawing(stock, [], [(name, "a") for name in names],
                               [(at, "a", at + 1, "a") for at in range(0, len(names), 2)])
                       for names in ("abcd", "efgh")]
        with self.assertRaises(TooMany):
            beside(four, three)

    def test_no_match_comes_first(self):
        corners = ["k"] * 4
        joins = [(at, "a", at, "a") for at in range(4)]
        one = Drawing(loose(2), corners, [], joins)
        with self.assertRaises(NoMatch):
            beside(one, Drawing(loose(2, 1), corners, [], joins))
        legs = [("x", "a"), ("y", "a")]
        one = Drawing(loose(2), corners, legs, joins + [(4, "a", 5, "a")])
        with self.assertRaises(NoMatch):
            beside(one, one)


if __name__ == "__main__":
    unittest.main()
