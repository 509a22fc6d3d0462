"""[7.1], [7.2] all_sums, whole_sums and free_sums, and [0.3] as far as it reaches them."""

import unittest
from fractions import Fraction
from itertools import product
from math import factorial

from endsum.errors import EndError, NoCounts, NoDrawing
from endsum.likeness import turns
from endsum.lists import drawings, sum_all
from endsum.parts import is_free, is_whole
from endsum.series import all_sums, free_sums, whole_sums
from endsum.stocks import Stock
from tests.samples import THREE, loose, mixed, odd_things, paired, told

ALL_THREE = (all_sums, whole_sums, free_sums)
SIX = [(name, "a") for name in "uvwxyz"]
TWO = Stock([("b", "b"), ("a", "a")], [("l", ("a", "b")), ("k", ("a", "a", "b"))])
TURNED = Stock([("out", "in"), ("z", "z"), ("in", "out")],
               [("n", ("in", "out", "z")), ("m", ("out", "z")), ("l", ("in",))])
CASES = [
    (loose(1), (6,), []),
    (loose(2), (5,), []),
    (loose(3), (4,), []),
    (loose(4), (3,), []),
    (loose(5), (2,), []),
    (loose(1), (3,), SIX[:4]),
    (loose(2), (3,), SIX[:3]),
    (loose(3), (3,), SIX[:1]),
    (loose(3), (2,), SIX),
    (loose(5), (1,), SIX[:5]),
    (loose(4), (2,), SIX[:2]),
    (loose(1, 3), (3, 2), SIX[:1]),
    (loose(1, 2, 3), (2, 1, 2), SIX[:2]),
    (loose(3, 1, 2, 4), (1, 2, 1, 1), []),
    (loose(5, 1), (1, 5), SIX[:2]),
    (TWO, (1, 3), []),
    (TWO, (2, 2), [("x", "a"), ("y", "b")]),
    (TWO, (1, 2), [("x", "a"), ("y", "a"), ("z", "b")]),
    (paired(), (4, 0), []),
    (paired(), (2, 2), [("p", "out"), ("q", "out")]),
    (paired(), (3, 1), [("p", "in"), ("q", "out"), ("r", "out")]),
    (paired(), (0, 0), [("p", "in"), ("q", "out")]),
    (mixed(), (1, 2, 2), []),
    (mixed(), (2, 0, 0), [("p", "in"), ("q", "out")]),
    (mixed(), (1, 2, 1), [("p", "out"), ("q", "z"), ("r", "z")]),
    (TURNED, (2, 1, 1), [("p", "in"), ("q", "z")]),
    (TURNED, (2, 2, 0), []),
    (TURNED, (1, 1, 2), [("p", "out"), ("q", "out"), ("r", "z")]),
]


def corners_of(stock, counts):
    """So many corners of each kind."""
    return [name for (name, _), many in zip(stock.kinds, counts) for _ in range(many)]


def over_drawings(stock, most, legs, fits):
    """The sums over the drawings that fit, made one by one."""
    sums = []
    for counts in sorted(product(*[range(many + 1) for many in most])):
        listed = drawings(stock, corners_of(stock, counts), legs)
        total = sum([Fraction(1, turns(drawing)) for drawing in listed if fits(drawing)], Fraction(0))
        sums.append((counts, told(total)))
    return sums


class AgainstDrawings(unittest.TestCase):
    def check(self, reckon, fits):
        some = 0
        for stock, most, legs in CASES:
            before = repr((stock.sorts, stock.kinds, most, legs))
            sums = reckon(stock, most, legs)
            self.assertEqual(sums, over_drawings(stock, most, legs, fits), before)
            self.assertEqual(repr((stock.sorts, stock.kinds, most, legs)), before)
            some += len([counts for counts, (top, _) in sums if top])
        self.assertGreater(some, 40)

    def test_all(self):
        self.check(all_sums, lambda drawing: True)

    def test_whole(self):
        self.check(whole_sums, is_whole)

    def test_free(self):
        self.check(free_sums, is_free)


class Known(unittest.TestCase):
    def test_two_of_three_ends(self):
        stock = loose(3)
        self.assertEqual(all_sums(stock, (2,), []), [((0,), (1, 1)), ((1,), (0, 1)), ((2,), (5, 24))])
        self.assertEqual(whole_sums(stock, (2,), []), [((0,), (0, 1)), ((1,), (0, 1)), ((2,), (5, 24))])
        self.assertEqual(free_sums(stock, (2,), []), [((0,), (0, 1)), ((1,), (0, 1)), ((2,), (1, 12))])

    def test_no_corners(self):
        for stock in (loose(3), loose(1, 2), mixed(), paired()):
            none = (0,) * len(stock.kinds)
            self.assertEqual(all_sums(stock, none, []), [(none, (1, 1))])
            self.assertEqual(whole_sums(stock, none, []), [(none, (0, 1))])
            self.assertEqual(free_sums(stock, none, []), [(none, (0, 1))])

    def test_legs_alone(self):
        for many, ways in ((1, 0), (2, 1), (3, 0), (4, 3), (6, 15)):
            self.assertEqual(all_sums(loose(3), (0,), SIX[:many]), [((0,), (ways, 1))])
            self.assertEqual(whole_sums(loose(3), (0,), SIX[:many]), [((0,), (int(many == 2), 1))])
            self.assertEqual(free_sums(loose(3), (0,), SIX[:many]), [((0,), (0, 1))])
        for sorts, ways in ((("in", "out"), 1), (("out", "in"), 1), (("in", "in"), 0)):
            legs = list(zip("pq", sorts))
            self.assertEqual(all_sums(paired(), (0, 0), legs), [((0, 0), (ways, 1))])
            self.assertEqual(whole_sums(paired(), (0, 0), legs), [((0, 0), (ways, 1))])
            self.assertEqual(free_sums(paired(), (0, 0), legs), [((0, 0), (0, 1))])

    def test_a_leg_is_joined_with_an_end_of_its_partner(self):
        stock = Stock([("in", "out"), ("out", "in")], [("k", ("in",))])
        for sort, top in (("in", 0), ("out", 1)):
            for reckon in ALL_THREE:
                self.assertEqual(reckon(stock, (1,), [("p", sort)])[1], ((1,), (top, 1)))

    def test_all_counts_stand_there_sorted(self):
        stock = loose(1, 2, 3, 4)
        for reckon in ALL_THREE:
            for most in ((2, 2, 1, 1), (0, 6, 0, 0), (0, 0, 1, 0), (3, 0, 0, 3)):
                rows = [counts for counts, _ in reckon(stock, most, SIX[:2])]
                self.assertEqual(rows, sorted(product(*[range(many + 1) for many in most])))

    def test_the_most_does_not_matter(self):
        stock = mixed()
        legs = [("p", "out"), ("q", "z")]
        for reckon in ALL_THREE:
            sums = dict(reckon(stock, (2, 2, 2), legs))
            for most in ((1, 2, 1), (2, 0, 2), (0, 2, 2), (2, 2, 0)):
                self.assertEqual(reckon(stock, most, legs),
                                 [(counts, sums[counts]) for counts, _ in reckon(stock, most, legs)])


class ManyEnds(unittest.TestCase):
    """Where there are too many ends for drawings: other reckonings."""

    STOCK = loose(5, 4, 3, 2)

    def test_all_sums_are_those_of_sum_all(self):
        for stock, most, legs in [(loose(5), (6,), SIX), (self.STOCK, (2, 2, 1, 1), SIX),
                                  (mixed(), (3, 1, 2), [("p", "out"), ("q", "z"), ("r", "z")])]:
            for counts, value in all_sums(stock, most, legs):
                self.assertEqual(value, sum_all(stock, corners_of(stock, counts), legs))

    def test_known_numbers_of_six_corners_of_three_ends(self):
        # whole and free drawings of 2, 4, 6 corners with three ends, by their turns
        self.assertEqual(all_sums(loose(3), (6,), [])[2::2],
                         [((2,), (5, 24)), ((4,), (385, 1152)), ((6,), (85085, 82944))])
        self.assertEqual(whole_sums(loose(3), (6,), [])[2::2],
                         [((2,), (5, 24)), ((4,), (5, 16)), ((6,), (1105, 1152))])
        self.assertEqual(free_sums(loose(3), (4,), [])[2::2], [((2,), (1, 12)), ((4,), (5, 48))])

    def test_all_are_made_of_whole_ones(self):
        # without legs: the sums over all are what the exponential of those over the whole ones is
        for stock, most in [(loose(5), (6,)), (self.STOCK, (2, 2, 1, 1)), (mixed(), (2, 2, 2))]:
            totals = {counts: Fraction(*value) for counts, value in all_sums(stock, most, [])}
            wholes = {counts: Fraction(*value) for counts, value in whole_sums(stock, most, [])}
            for counts in totals:
                if any(counts):
                    parts = [(part, rest) for part in wholes for rest in totals
                             if tuple(map(sum, zip(part, rest))) == counts]
                    total = sum([sum(part) * wholes[part] * totals[rest] for part, rest in parts])
                    self.assertEqual(sum(counts) * totals[counts], total)

    def test_free_ones_of_six_corners_of_five_ends(self):
        for ends, most, legs in ((5, 4, 2), (5, 6, 0), (5, 6, 6), (4, 5, 3), (3, 6, 4)):
            frees = free_sums(loose(ends), (most,), SIX[:legs])
            wholes = plain_wholes(ends, most, legs + most + 2)
            self.assertEqual(frees, [((many,), told(plain_free(wholes, many, legs)))
                                     for many in range(most + 1)])

    def test_kinds_that_are_the_same_but_for_their_names(self):
        one, two = loose(5), loose(5, 5)
        for reckon in ALL_THREE:
            for legs in ([], SIX[:3], SIX):
                sums = {counts: Fraction(*value) for counts, value in reckon(two, (3, 3), legs)}
                for (many,), value in reckon(one, (3,), legs):
                    self.assertEqual(sums[(many, 0)], Fraction(*value))
                    self.assertEqual(sums[(0, many)], Fraction(*value))
                (_, value), whole = reckon(one, (6,), legs)[6], sums[(3, 3)]
                self.assertEqual(Fraction(*value) * factorial(6), whole * factorial(3) ** 2)

    def test_sorts_in_another_order(self):
        kinds = [("k", ("in", "in", "out", "out", "z")), ("l", ("in", "out", "z", "z", "z"))]
        legs = [("p", "in"), ("q", "out"), ("r", "z"), ("s", "z"), ("t", "z"), ("u", "z")]
        for reckon in ALL_THREE:
            rows = [reckon(Stock(sorts, kinds), (3, 3), legs)
                    for sorts in (THREE, THREE[::-1], THREE[1:] + THREE[:1])]
            self.assertEqual(rows[0], rows[1])
            self.assertEqual(rows[0], rows[2])


def plain_wholes(ends, most, legs):
    """wholes[n][v]: sums over whole drawings of n corners and v legs, one sort; all minus the rest."""
    def pairing_sum(many, more):
        number = ends * many + more
        if number % 2:
            return Fraction(0)
        ways = factorial(number) // (2 ** (number // 2) * factorial(number // 2))
        return Fraction(ways, factorial(many) * factorial(ends) ** many)

    wholes = {}
    for more in range(legs + 1):
        for many in range(most + 1):
            # the part with the first leg, or with a marked corner where there are no legs
            total = (1 if more else many) * pairing_sum(many, more)
            for part in range(many + 1):
                for taken in range(more + 1):
                    if (part, taken) == (many, more) or (more and not taken) or not (part or taken):
                        continue
                    ways = (factorial(more - 1) // factorial(taken - 1) // factorial(more - taken)
                            if more else part)
                    total -= ways * wholes[part, taken] * pairing_sum(many - part, more - taken)
            wholes[many, more] = total / (1 if more or not many else many)
    return wholes


def plain_free(wholes, corners, legs):
    """The sum over free drawings: whole ones without those that have cuts, by numbers of cuts.

    W(t) tells whole drawings, each with t to the power of its cuts: its slope in t marks a cut,
    which has a whole drawing with a leg on either side. So W(0) is had from W(1) in powers of
    1 - t, row by row.
    """
    rows = [{key: value for key, value in wholes.items() if key[0]}]
    for power in range(corners):
        last = {}
        for many in range(1, corners + 1):
            for more in range(legs + corners - power):
                total = Fraction(0)
                for row in range(power + 1):
                    for part in range(1, many):
                        for taken in range(more + 1):
                            ways = factorial(more) // factorial(taken) // factorial(more - taken)
                            total += (ways * rows[row].get((part, taken + 1), 0)
                                      * rows[power - row].get((many - part, more - taken + 1), 0))
                last[many, more] = -total / 2 / (power + 1)
        rows.append(last)
    return sum([row.get((corners, legs), Fraction(0)) for row in rows], Fraction(0))


class Refusals(unittest.TestCase):
    def refused(self, error, stock, most, legs):
        before = repr((most, legs))
        for reckon in ALL_THREE:
            with self.assertRaises(error, msg=before) as caught:
                reckon(stock, most, legs)
            self.assertIsInstance(caught.exception, EndError)
            if error is NoDrawing:
                self.assertEqual(caught.exception.part, "legs")
        self.assertEqual(repr((most, legs)), before)

    def test_no_counts_come_first(self):
        for legs in ([], SIX, None, [("x", "b")]):
            for most in odd_things():
                self.refused(NoCounts, loose(3), most, legs)
            for most in ((), (1,), (1, 1, 1), [1, 1], {0: 1, 1: 1}, (1, None), (None, 1), (True, 1),
                         (1, False), (True, True), (1, 1.0), ("1", 1), (1, [1]), (1, (1,)), (-1, 2),
                         (1, -1), (7, 0), (0, 7), (4, 3), (6, 1), (10 ** 17, 0), (-10 ** 17, 10 ** 17),
                         (8, -2), "11", 11, None, (0,) * 300):
                self.refused(NoCounts, loose(3, 2), most, legs)
        for reckon in ALL_THREE:
            self.assertEqual(len(reckon(loose(3, 2), (6, 0), [])), 7)
            self.assertEqual(len(reckon(loose(3, 2), (3, 3), [])), 16)

    def test_then_no_legs(self):
        for legs in odd_things() + [SIX[::-1], SIX[:1] * 2, [("x", "b")], SIX + [("zz", "a")], tuple(SIX)]:
            self.refused(NoDrawing, loose(3), (2,), legs)
            self.refused(NoDrawing, loose(3), (0,), legs)
            self.refused(NoDrawing, loose(5), (6,), legs)


class Kept(unittest.TestCase):
    def test_lists_of_tuples_of_the_askers_own(self):
        for reckon in ALL_THREE:
            first = reckon(loose(3), (2,), SIX[:2])
            self.assertIs(first.__class__, list)
            for row in first:
                self.assertEqual([part.__class__ for part in row], [tuple, tuple])
                self.assertEqual([part.__class__ for part in row[0] + row[1]], [int] * 3)
            whole = list(first)
            first.clear()
            self.assertEqual(reckon(loose(3), (2,), SIX[:2]), whole)

    def test_what_is_handed_in_stays(self):
        stock, legs = mixed(), [("p", "out"), ("q", "z")]
        before = repr((stock.sorts, stock.kinds, legs))
        for reckon in ALL_THREE:
            reckon(stock, (2, 1, 1), legs)
        self.assertEqual(repr((stock.sorts, stock.kinds, legs)), before)


if __name__ == "__main__":
    unittest.main()
