"""[6.1] parts, [6.2] cuts and pieces, [6.3] cut and join_legs, and [0.3] as far as it reaches them."""

import unittest

from endsum.drawings import Drawing, beside
from endsum.errors import EndError, NoJoin, NoLeg, NoName, TooMany
from endsum.likeness import alike
from endsum.parts import cut, cuts, is_free, is_whole, join_legs, parts, pieces
from endsum.stocks import Stock
from tests.samples import (all_drawings, contents, inner, loose, mixed, odd_things, paired,
                           plain_groups, unlike_drawings)

NAMES = ("one", "two")


def of_three(pairs, *legs):
    """A drawing of corners with three ends each, joined so, with legs at these corners."""
    many = max([at for pair in pairs for at in pair]) + 1
    rows = [(min(pair), "a", max(pair), "a") for pair in pairs]
    rows += [(at, "a", many + to, "a") for to, at in enumerate(legs)]
    names = [(name, "a") for name in "uvwxyz"[:len(legs)]]
    return Drawing(loose(3), ["k"] * many, names, sorted(rows))


def dumbbell():
    """Two corners, each joined with itself, and with one another."""
    return of_three([(0, 0), (0, 1), (1, 1)])


def places_of(drawing):
    """All places of a drawing."""
    return range(len(drawing.corners) + len(drawing.legs))


def plain_cuts(drawing):
    """The cuts, by taking each inner join away."""
    before = len(plain_groups(places_of(drawing), drawing.joins))
    found = []
    for join in inner(drawing):
        rest = list(drawing.joins)
        rest.remove(join)
        if len(plain_groups(places_of(drawing), rest)) > before:
            found.append(join)
    return sorted(found)


class Parts(unittest.TestCase):
    def test_against_going_from_place_to_place(self):
        for drawing in all_drawings():
            before = contents(drawing)
            many = len(drawing.corners)
            told = parts(drawing)
            groups = plain_groups(places_of(drawing), drawing.joins)
            self.assertEqual(len(told), len(groups))
            for part, group in zip(told, groups):
                self.assertEqual(part.stock, drawing.stock)
                self.assertEqual(part.corners, [drawing.corners[at] for at in group if at < many])
                self.assertEqual(part.legs, [drawing.legs[at - many] for at in group if at >= many])
                rows = [(group.index(row[0]), row[1], group.index(row[2]), row[3])
                        for row in drawing.joins if row[0] in group]
                self.assertEqual(part.joins, sorted(rows))
            self.assertEqual(contents(drawing), before)

    def test_beside_one_another_they_are_alike_to_the_drawing(self):
        for drawing in all_drawings():
            whole = Drawing(drawing.stock, [], [], [])
            for part in parts(drawing):
                self.assertEqual([other for other in parts(part)], [part])
                whole = beside(whole, part)
            self.assertIsNotNone(alike(whole, drawing))

    def test_by_their_least_places(self):
        stock = loose(1, 2)
        legs = [("x", "a"), ("y", "a"), ("z", "a")]
        drawing = Drawing(stock, ["k", "l", "k", "l"], legs + [("zz", "a")],
                          [(0, "a", 3, "a"), (1, "a", 1, "a"), (2, "a", 5, "a"), (3, "a", 6, "a"),
                           (4, "a", 7, "a")])
        rows = [(part.corners, part.legs, part.joins) for part in parts(drawing)]
        self.assertEqual(rows, [
            (["k", "l"], [("z", "a")], [(0, "a", 1, "a"), (1, "a", 2, "a")]),
            (["l"], [], [(0, "a", 0, "a")]),
            (["k"], [("y", "a")], [(0, "a", 1, "a")]),
            ([], [("x", "a"), ("zz", "a")], [(0, "a", 1, "a")]),
        ])

    def test_two_legs_that_are_joined(self):
        drawing = Drawing(paired(), [], [("p", "in"), ("q", "out")], [(0, "in", 1, "out")])
        self.assertEqual(parts(drawing), [drawing])
        self.assertIs(is_whole(drawing), True)
        self.assertIs(is_free(drawing), False)

    def test_without_corners_and_legs(self):
        drawing = Drawing(loose(1), [], [], [])
        self.assertEqual(parts(drawing), [])
        self.assertIs(is_whole(drawing), False)
        self.assertIs(is_free(drawing), False)
        self.assertEqual(cuts(drawing), [])
        self.assertEqual(pieces(drawing), [])

    def test_is_whole(self):
        for drawing in all_drawings():
            self.assertIs(is_whole(drawing),
                          len(plain_groups(places_of(drawing), drawing.joins)) == 1)

    def test_what_is_told_is_the_askers_own(self):
        drawing = dumbbell()
        before = contents(drawing)
        told = parts(drawing)
        del told[0].joins[:], told[0].corners[:], told[:]
        self.assertEqual(contents(drawing), before)
        self.assertEqual(parts(drawing), [drawing])


class Cuts(unittest.TestCase):
    def test_against_taking_each_away(self):
        for drawing in all_drawings():
            before = contents(drawing)
            self.assertEqual(cuts(drawing), plain_cuts(drawing))
            self.assertEqual(contents(drawing), before)

    def test_loops_equal_joins_and_joins_to_legs_are_none(self):
        self.assertEqual(cuts(dumbbell()), [(0, "a", 1, "a")])
        self.assertEqual(cuts(of_three([(0, 1)] * 3)), [])
        self.assertEqual(cuts(of_three([(0, 1)] * 2, 0, 1)), [])
        self.assertEqual(cuts(of_three([(0, 0)], 0)), [])
        self.assertEqual(cuts(of_three([(0, 1)], 0, 0, 1, 1)), [(0, "a", 1, "a")])
        legs = [("x", "a"), ("y", "a")]
        self.assertEqual(cuts(Drawing(loose(1), [], legs, [(0, "a", 1, "a")])), [])
        self.assertEqual(cuts(Drawing(loose(1), ["k", "k"], [], [(0, "a", 1, "a")])), [(0, "a", 1, "a")])

    def test_two_unlike_joins_of_two_corners_are_none(self):
        drawing = Drawing(paired(), ["k", "k"], [], [(0, "in", 1, "out"), (0, "out", 1, "in")])
        self.assertEqual(cuts(drawing), [])
        self.assertIs(is_free(drawing), True)

    def test_in_parts_each_for_itself(self):
        two = beside(dumbbell(), dumbbell())
        self.assertEqual(cuts(two), [(0, "a", 1, "a"), (2, "a", 3, "a")])
        self.assertEqual(pieces(two), [[0], [1], [2], [3]])
        self.assertIs(is_free(two), False)

    def test_is_free(self):
        for drawing in all_drawings():
            wanted = (len(plain_groups(places_of(drawing), drawing.joins)) == 1
                      and drawing.corners != [] and plain_cuts(drawing) == [])
            self.assertIs(is_free(drawing), wanted)
        self.assertIs(is_free(of_three([(0, 1)] * 3)), True)
        self.assertIs(is_free(dumbbell()), False)
        self.assertIs(is_free(of_three([(0, 0)], 0)), True)
        free = of_three([(0, 1)] * 3)
        self.assertIs(is_free(beside(free, free)), False)

    def test_lists_are_the_askers_own(self):
        drawing = dumbbell()
        cuts(drawing).clear()
        told = pieces(drawing)
        told[0].clear()
        told.clear()
        self.assertEqual(cuts(drawing), [(0, "a", 1, "a")])
        self.assertEqual(pieces(drawing), [[0], [1]])


class Pieces(unittest.TestCase):
    def test_against_going_from_corner_to_corner(self):
        for drawing in all_drawings():
            before = contents(drawing)
            rows = [join for join in inner(drawing) if join not in plain_cuts(drawing)]
            told = pieces(drawing)
            self.assertEqual(told, plain_groups(range(len(drawing.corners)), rows))
            self.assertEqual(contents(drawing), before)

    def test_one_more_than_cuts_of_a_whole_drawing(self):
        many = 0
        for drawing in all_drawings():
            if is_whole(drawing) and drawing.corners:
                self.assertEqual(len(pieces(drawing)), len(cuts(drawing)) + 1)
                many += 1
        self.assertGreater(many, 20)

    def test_legs_do_not_count(self):
        self.assertEqual(pieces(of_three([(0, 1)] * 2, 0, 1)), [[0, 1]])
        self.assertEqual(pieces(of_three([(0, 1)], 0, 0, 1, 1)), [[0], [1]])
        legs = [("x", "a"), ("y", "a")]
        self.assertEqual(pieces(Drawing(loose(1), [], legs, [(0, "a", 1, "a")])), [])

    def test_rising_and_by_their_least(self):
        drawing = of_three([(0, 3), (0, 3), (0, 5), (1, 4), (1, 4), (1, 2), (2, 4), (2, 5), (3, 5)])
        self.assertEqual(cuts(drawing), [(2, "a", 5, "a")])
        self.assertEqual(pieces(drawing), [[0, 3, 5], [1, 2, 4]])


class Cut(unittest.TestCase):
    def test_both_ends_get_legs(self):
        drawing = Drawing(paired(), ["k", "k"], [], [(0, "in", 1, "out"), (0, "out", 1, "in")])
        told = cut(drawing, (0, "in", 1, "out"), ("b", "a"))
        self.assertEqual(told.corners, ["k", "k"])
        self.assertEqual(told.legs, [("a", "in"), ("b", "out")])
        self.assertEqual(told.joins, [(0, "in", 3, "out"), (0, "out", 1, "in"), (1, "out", 2, "in")])
        told = cut(drawing, (0, "out", 1, "in"), ("b", "a"))
        self.assertEqual(told.legs, [("a", "out"), ("b", "in")])
        self.assertEqual(told.joins, [(0, "in", 1, "out"), (0, "out", 3, "in"), (1, "in", 2, "out")])

    def test_other_legs_keep_their_joins(self):
        legs = [("m", "a"), ("n", "a")]
        drawing = Drawing(loose(3), ["k", "k"], legs,
                          [(0, "a", 1, "a"), (0, "a", 1, "a"), (0, "a", 3, "a"), (1, "a", 2, "a")])
        told = cut(drawing, (0, "a", 1, "a"), ("a", "mm"))
        self.assertEqual(told.legs, [("a", "a"), ("m", "a"), ("mm", "a"), ("n", "a")])
        self.assertEqual(told.joins, [(0, "a", 1, "a"), (0, "a", 2, "a"), (0, "a", 5, "a"),
                                      (1, "a", 3, "a"), (1, "a", 4, "a")])

    def test_a_loop(self):
        told = cut(dumbbell(), (0, "a", 0, "a"), ("y", "x"))
        self.assertEqual(told.joins, [(0, "a", 1, "a"), (0, "a", 2, "a"), (0, "a", 3, "a"),
                                      (1, "a", 1, "a")])

    def test_cut_and_joined_again_it_is_itself(self):
        many = 0
        for drawing in all_drawings():
            before = contents(drawing)
            if len(drawing.legs) > 4:
                continue
            for join in inner(drawing):
                for names in (NAMES, ("zzzzzzzz", "a"), ("b", "zz")):
                    told = cut(drawing, join, names)
                    self.assertEqual(len(told.joins), len(drawing.joins) + 1)
                    self.assertEqual(join_legs(told, names[0], names[1]), drawing)
                    self.assertEqual(join_legs(told, names[1], names[0]), drawing)
                    self.assertEqual(is_whole(told), is_whole(drawing) and join not in cuts(drawing))
                    many += 1
            self.assertEqual(contents(drawing), before)
        self.assertGreater(many, 100)

    def refused(self, error, drawing, join, names):
        before = contents(drawing), repr((join, names))
        with self.assertRaises(error, msg=repr((join, names))) as caught:
            cut(drawing, join, names)
        self.assertIsInstance(caught.exception, EndError)
        self.assertEqual((contents(drawing), repr((join, names))), before)

    def test_no_join(self):
        drawing = of_three([(0, 1)] * 2, 0, 1)
        cut(drawing, (0, "a", 1, "a"), NAMES)
        for join in odd_things() + [
            (1, "a", 0, "a"), (0, "a", 0, "a"), (0, "a", 2, "a"), (1, "a", 3, "a"), (2, "a", 3, "a"),
            [0, "a", 1, "a"], (0, "a", 1), (0, "a", 1, "a", 0), ((0, "a"), (1, "a")), (),
            (False, "a", 1, "a"), (0, "a", True, "a"), (False, "a", True, "a"), (0.0, "a", 1, "a"),
            (0, "a", 1.0, "a"), (0, "a", 1, "b"), (0, None, 1, "a"), (0, ["a"], 1, "a"), (0, b"a", 1, "a"),
            ("0", "a", "1", "a"), (None, "a", 1, "a"), ([], "a", 1, "a"), (-1, "a", 1, "a"),
            (0, "a", 10 ** 17, "a"),
        ]:
            for names in (NAMES, None):
                self.refused(NoJoin, drawing, join, names)
        self.refused(NoJoin, Drawing(loose(1), [], [], []), (0, "a", 0, "a"), NAMES)
        legs = [("x", "a"), ("y", "a")]
        self.refused(NoJoin, Drawing(loose(1), [], legs, [(0, "a", 1, "a")]), (0, "a", 1, "a"), NAMES)

    def test_no_name(self):
        drawing = of_three([(0, 1)] * 2, 0, 1)
        six = of_three([(0, 1), (1, 2), (2, 3)], 0, 0, 1, 2, 3, 3)
        for names in odd_things() + [
            ("x", "x"), ("u", "x"), ("x", "u"), ("v", "u"), ["x", "y"], ("x",), ("x", "y", "z"), "xy",
            ("", "x"), ("x", ""), ("X", "y"), ("x", "y1"), ("abcdefghi", "x"), ("x", None), (1, "x"),
            ("x", True), (b"x", "y"), ("x", ["y"]), (["x"], ["y"]), ({}, "x"), {"x": "y"}, ("x y", "z"),
        ]:
            self.refused(NoName, drawing, (0, "a", 1, "a"), names)
            # names come ahead of too many legs
            self.refused(NoName, six, (0, "a", 1, "a"), names)

    def test_too_many(self):
        six = of_three([(0, 1), (1, 2), (2, 3)], 0, 0, 1, 2, 3, 3)
        five = of_three([(0, 1), (1, 2), (2, 2)], 0, 0, 1)
        self.refused(TooMany, six, (0, "a", 1, "a"), NAMES)
        four = cut(five, (0, "a", 1, "a"), NAMES)
        self.assertEqual(len(four.legs), 5)
        self.refused(TooMany, four, (1, "a", 2, "a"), ("p", "q"))
        two = of_three([(0, 1)] * 2, 0, 1)
        once = cut(two, (0, "a", 1, "a"), NAMES)
        twice = cut(once, (0, "a", 1, "a"), ("p", "q"))
        self.assertEqual(len(twice.legs), 6)
        self.refused(NoJoin, twice, (0, "a", 1, "a"), ("r", "s"))

    def test_what_is_told_is_the_askers_own(self):
        drawing = dumbbell()
        before = contents(drawing)
        told = cut(drawing, (0, "a", 1, "a"), NAMES)
        del told.corners[:], told.legs[:], told.joins[:]
        self.assertEqual(contents(drawing), before)


class JoinLegs(unittest.TestCase):
    STOCK = Stock([("a", "a"), ("in", "out"), ("out", "in")], [("k", ("a", "in", "out"))])
    LEGS = [("p", "a"), ("q", "a"), ("r", "in"), ("s", "out")]

    def drawing(self):
        """Two corners, one with legs of all sorts, the other with itself and one leg."""
        return Drawing(self.STOCK, ["k", "k"], self.LEGS,
                       [(0, "a", 2, "a"), (0, "in", 5, "out"), (0, "out", 4, "in"),
                        (1, "a", 3, "a"), (1, "in", 1, "out")])

    def test_the_ends_are_joined(self):
        told = join_legs(self.drawing(), "p", "q")
        self.assertEqual(told.legs, [("r", "in"), ("s", "out")])
        self.assertEqual(told.joins, [(0, "a", 1, "a"), (0, "in", 3, "out"), (0, "out", 2, "in"),
                                      (1, "in", 1, "out")])
        self.assertEqual(join_legs(self.drawing(), "q", "p"), told)
        told = join_legs(self.drawing(), "r", "s")
        self.assertEqual(told.legs, [("p", "a"), ("q", "a")])
        self.assertEqual(told.joins, [(0, "a", 2, "a"), (0, "in", 0, "out"), (1, "a", 3, "a"),
                                      (1, "in", 1, "out")])

    def test_legs_that_are_joined_with_other_legs(self):
        legs = [(name, "a") for name in "uvwxy"]
        drawing = Drawing(loose(1), ["k"], legs, [(0, "a", 3, "a"), (1, "a", 5, "a"), (2, "a", 4, "a")])
        told = join_legs(drawing, "w", "u")
        self.assertEqual(told.legs, [("v", "a"), ("x", "a"), ("y", "a")])
        self.assertEqual(told.joins, [(0, "a", 3, "a"), (1, "a", 2, "a")])
        told = join_legs(drawing, "u", "v")
        self.assertEqual(told.legs, [("w", "a"), ("x", "a"), ("y", "a")])
        self.assertEqual(told.joins, [(0, "a", 1, "a"), (2, "a", 3, "a")])

    def refused(self, error, drawing, one, other):
        before = contents(drawing), repr((one, other))
        with self.assertRaises(error, msg=repr((one, other))) as caught:
            join_legs(drawing, one, other)
        self.assertIsInstance(caught.exception, EndError)
        self.assertEqual((contents(drawing), repr((one, other))), before)

    def test_no_leg(self):
        drawing = self.drawing()
        for name in odd_things() + ["t", "pq", "P", 2, ("p", "a"), ["p"], b"p", "p ", True]:
            self.refused(NoLeg, drawing, name, "q")
            self.refused(NoLeg, drawing, "q", name)
            self.refused(NoLeg, drawing, name, name)
        self.refused(NoLeg, drawing, "p", "p")
        self.refused(NoLeg, dumbbell(), "p", "q")

    def test_no_join(self):
        drawing = self.drawing()
        for one, other in (("p", "r"), ("s", "p"), ("q", "r"), ("s", "q")):
            self.refused(NoJoin, drawing, one, other)
        legs = [("x", "a"), ("y", "a")]
        for stock, sorts in ((loose(1), ("a", "a")), (paired(), ("in", "out"))):
            joined = Drawing(stock, [], list(zip("xy", sorts)), [(0, sorts[0], 1, sorts[1])])
            self.refused(NoJoin, joined, "x", "y")
            self.refused(NoJoin, joined, "y", "x")
        both = Drawing(loose(2), ["k"], legs, [(0, "a", 0, "a"), (1, "a", 2, "a")])
        self.refused(NoJoin, both, "x", "y")
        four = Drawing(paired(), ["k", "k"], [("p", "in"), ("q", "in"), ("r", "out"), ("s", "out")],
                       [(0, "in", 4, "out"), (0, "out", 2, "in"), (1, "in", 5, "out"), (1, "out", 3, "in")])
        self.refused(NoJoin, four, "p", "q")
        self.refused(NoJoin, four, "r", "s")
        join_legs(four, "p", "s")

    def test_against_the_sample_with_all_sorts(self):
        for drawing in unlike_drawings(mixed(), ["k"], [("p", "in"), ("q", "out"), ("r", "z"), ("s", "z")]):
            for one, other in (("p", "q"), ("r", "s"), ("q", "p"), ("s", "r")):
                places = [1 + [leg[0] for leg in drawing.legs].index(name) for name in (one, other)]
                if any(row[0] in places and row[2] in places for row in drawing.joins):
                    self.refused(NoJoin, drawing, one, other)
                else:
                    told = join_legs(drawing, one, other)
                    self.assertEqual(len(told.legs), 2)
                    self.assertEqual(len(told.joins), len(drawing.joins) - 1)


if __name__ == "__main__":
    unittest.main()
