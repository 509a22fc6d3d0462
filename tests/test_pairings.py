"""[4.1] count, pairings and drawing_of, [4.2] group, and [0.3] as far as it reaches them."""

import unittest
from math import factorial

from endsum.drawings import Drawing
from endsum.errors import EndError, NoDrawing, NoPairing, TooMany
from endsum.likeness import least, turns
from endsum.pairings import count, drawing_of, group, pairings
from endsum.stocks import Stock
from tests.samples import (all_renamings, contents, ends_of, every_kind_of_stock, loose, mixed,
                           odd_things, paired, renamed_plainly)

LEGS = [("x", "a"), ("y", "a")]


def plain_pairings(stock, corners, legs):
    """All pairings, by going through all ways to take the ends two by two."""
    sorts = [sort for _, sort in ends_of(stock, corners, legs)]
    partners = dict(stock.sorts)

    def ways(numbers):
        if not numbers:
            return [[]]
        return [[(numbers[0], other)] + rest for other in numbers[1:]
                if partners[sorts[numbers[0]]] == sorts[other]
                for rest in ways([number for number in numbers[1:] if number != other])]

    return sorted(ways(list(range(len(sorts)))))


def odd_factorial(many):
    """1 * 3 * 5 * .. below many."""
    total = 1
    for odd in range(1, many, 2):
        total *= odd
    return total


class Refusals(unittest.TestCase):
    """Whether corners and legs that are none are refused."""

    def refused(self, call, part):
        with self.assertRaises(NoDrawing) as caught:
            call()
        self.assertEqual(caught.exception.part, part)
        self.assertIsInstance(caught.exception, EndError)

    def test_no_corners_come_first(self):
        stock = loose(2)
        for corners in odd_things() + [["l"], ["k"] * 7, ("k",), ["k", None], [["k"]]]:
            before = repr(corners)
            for legs in (LEGS, None, [("x", "b")]):
                self.refused(lambda: count(stock, corners, legs), "corners")
                self.refused(lambda: pairings(stock, corners, legs), "corners")
                self.refused(lambda: drawing_of(stock, corners, legs, None), "corners")
            self.refused(lambda: group(stock, corners), "corners")
            self.assertEqual(repr(corners), before)

    def test_then_no_legs(self):
        stock = loose(5)
        seven = [(name, "a") for name in "tuvwxyz"]
        for legs in odd_things() + [LEGS[::-1], LEGS[:1] * 2, [("x", "b")], seven, tuple(LEGS)]:
            before = repr(legs)
            # more ends than may be paired
            for corners in (["k"], ["k"] * 6):
                self.refused(lambda: count(stock, corners, legs), "legs")
                self.refused(lambda: pairings(stock, corners, legs), "legs")
                self.refused(lambda: drawing_of(stock, corners, legs, None), "legs")
            self.assertEqual(repr(legs), before)


class Count(unittest.TestCase):
    def test_against_going_through_all(self):
        for stock, corners, legs in every_kind_of_stock():
            self.assertEqual(count(stock, corners, legs), len(plain_pairings(stock, corners, legs)))

    def test_of_nothing(self):
        for stock in (loose(3), paired(), mixed()):
            self.assertEqual(count(stock, [], []), 1)

    def test_none_where_an_end_finds_no_partner(self):
        self.assertEqual(count(loose(3), ["k"], []), 0)
        self.assertEqual(count(loose(3), ["k", "k", "k"], LEGS), 0)
        self.assertEqual(count(paired(), ["l"], []), 0)
        self.assertEqual(count(paired(), ["l"], [("p", "in")]), 0)
        self.assertEqual(count(paired(), [], [("p", "in"), ("q", "in")]), 0)
        self.assertEqual(count(mixed(), ["k", "l"], []), 0)

    def test_of_many_ends(self):
        legs = [(name, "a") for name in "uvwxyz"]
        self.assertEqual(count(loose(5), ["k"] * 6, legs), odd_factorial(36))
        self.assertEqual(count(loose(5), ["k"] * 6, legs[:5]), 0)
        stock = Stock([("b", "a"), ("a", "b")], [("k", ("a",) * 5), ("l", ("b",) * 5)])
        self.assertEqual(count(stock, ["k", "l"] * 3, []), factorial(15))
        self.assertEqual(count(stock, ["k"] * 6, []), 0)
        legs = [("p", "a"), ("q", "a"), ("r", "a"), ("s", "b"), ("t", "b"), ("u", "b")]
        self.assertEqual(count(stock, ["k", "l"] * 3, legs), factorial(18))

    def test_sorts_are_paired_each_for_itself(self):
        self.assertEqual(count(mixed(), ["k"] * 4, []), factorial(4) * odd_factorial(8))
        stock = Stock([("a", "a"), ("b", "b")], [("k", ("a", "a", "b"))])
        self.assertEqual(count(stock, ["k"] * 4, []), odd_factorial(8) * odd_factorial(4))

    def test_the_order_of_corners_does_not_matter(self):
        self.assertEqual(count(paired(), ["l", "k", "k"], [("p", "out")]),
                         count(paired(), ["k", "l", "k"], [("p", "out")]))

    def test_it_is_a_whole_number(self):
        self.assertIs(count(loose(3), ["k"], []).__class__, int)
        self.assertIs(count(loose(3), [], []).__class__, int)


class Pairings(unittest.TestCase):
    def test_all_of_them_sorted(self):
        for stock, corners, legs in every_kind_of_stock():
            before = repr((corners, legs))
            rows = pairings(stock, corners, legs)
            self.assertEqual(rows, plain_pairings(stock, corners, legs))
            self.assertEqual(rows, sorted(rows))
            self.assertEqual(len(rows), count(stock, corners, legs))
            self.assertEqual(repr((corners, legs)), before)

    def test_of_three_ends_and_a_leg(self):
        self.assertEqual(pairings(loose(3), ["k"], [("x", "a")]),
                         [[(0, 1), (2, 3)], [(0, 2), (1, 3)], [(0, 3), (1, 2)]])
        self.assertEqual(pairings(paired(), ["l"], [("p", "out")]),
                         [[(0, 2), (1, 3)], [(0, 3), (1, 2)]])

    def test_of_nothing_and_none(self):
        self.assertEqual(pairings(loose(3), [], []), [[]])
        self.assertEqual(pairings(loose(3), ["k"], []), [])
        self.assertEqual(pairings(paired(), ["l"], []), [])

    def test_of_ten_ends(self):
        rows = pairings(loose(5), ["k", "k"], [])
        self.assertEqual(len(rows), 945)
        self.assertEqual(rows, sorted(rows))
        self.assertEqual(len(set(map(tuple, rows))), 945)

    def test_too_many(self):
        for stock, corners, legs in [(loose(5), ["k", "k"], [("x", "a")]), (loose(2), ["k"] * 6, []),
                                     (paired(), ["k"] * 6, []), (loose(5), ["k"] * 6, LEGS),
                                     (loose(1), ["k"] * 6, [(name, "a") for name in "vwxyz"])]:
            with self.assertRaises(TooMany):
                pairings(stock, corners, legs)
            count(stock, corners, legs)

    def test_they_are_lists_of_tuples_told_anew(self):
        first = pairings(loose(4), ["k"], [])
        for row in first:
            self.assertIs(row.__class__, list)
            for pair in row:
                self.assertIs(pair.__class__, tuple)
        whole = [list(row) for row in first]
        for row in first:
            row.clear()
        first.clear()
        self.assertEqual(pairings(loose(4), ["k"], []), whole)


class DrawingOf(unittest.TestCase):
    def test_just_these_ends_are_joined(self):
        for stock, corners, legs in every_kind_of_stock():
            ends = ends_of(stock, corners, legs)
            for pairing in pairings(stock, corners, legs):
                before = list(pairing)
                joins = []
                for one, other in pairing:
                    joins.append(min(ends[one], ends[other]) + max(ends[one], ends[other]))
                drawing = drawing_of(stock, corners, legs, pairing)
                self.assertEqual(drawing, Drawing(stock, corners, legs, sorted(joins)))
                self.assertEqual(pairing, before)

    def test_of_nothing(self):
        self.assertEqual(drawing_of(loose(1), [], [], []), Drawing(loose(1), [], [], []))

    def test_corners_keep_their_order(self):
        stock = loose(1, 3)
        drawing = drawing_of(stock, ["l", "k"], [], [(0, 2), (1, 3)])
        self.assertEqual(drawing.corners, ["l", "k"])
        self.assertEqual(drawing.joins, [(0, "a", 0, "a"), (0, "a", 1, "a")])

    def test_of_many_ends(self):
        legs = [(name, "a") for name in "uvwxyz"]
        pairing = [(at, at + 18) for at in range(18)]
        drawing = drawing_of(loose(5), ["k"] * 6, legs, pairing)
        self.assertEqual(len(drawing.joins), 18)
        self.assertEqual(drawing.joins[0], (0, "a", 3, "a"))
        self.assertEqual(drawing.joins[-1], (3, "a", 11, "a"))

    def refused(self, stock, corners, legs, pairing):
        before = repr(pairing)
        with self.assertRaises(NoPairing, msg=before) as caught:
            drawing_of(stock, corners, legs, pairing)
        self.assertIsInstance(caught.exception, EndError)
        self.assertEqual(repr(pairing), before)

    def test_what_is_no_pairing(self):
        stock, corners, legs = loose(2), ["k", "k"], LEGS
        whole = [(0, 1), (2, 4), (3, 5)]
        drawing_of(stock, corners, legs, whole)
        for pairing in odd_things() + [
            [], whole[:2], whole[1:], whole + whole[:1], whole + [(6, 7)], whole + [()],
            [(0, 1), (0, 1), (2, 4)], [(0, 1), (2, 4), (2, 4)], [(0, 1), (2, 3), (3, 5)],
            [(0, 1), (2, 4), (5, 3)], [(1, 0), (2, 4), (3, 5)], [(0, 0), (2, 4), (3, 5)],
            [(2, 4), (0, 1), (3, 5)], [(0, 1), (3, 5), (2, 4)], whole[::-1],
            tuple(whole), {(0, 1): 1, (2, 4): 1, (3, 5): 1}, {0: 1, 2: 4, 3: 5},
            [[0, 1], (2, 4), (3, 5)], [[0, 1], [2, 4], [3, 5]], [(0, 1, 2), (2, 4), (3, 5)],
            [(0,), (2, 4), (3, 5)], [0, 1, 2, 4, 3, 5], ["01", "24", "35"],
            [(0, 1), (2, 4), (3, 6)], [(-1, 1), (2, 4), (3, 5)], [(-1, 0), (1, 2), (3, 4)],
            [(1, 2), (3, 4), (5, 6)], [(0, 1), (2, 4), (3, 10 ** 17)],
            [(False, True), (2, 4), (3, 5)], [(0, True), (2, 4), (3, 5)], [(False, 1), (2, 4), (3, 5)],
            [(0, 1.0), (2, 4), (3, 5)], [(0.0, 1), (2, 4), (3, 5)], [("0", "1"), (2, 4), (3, 5)],
            [(0, "1"), (2, 4), (3, 5)], [(None, 1), (2, 4), (3, 5)], [(0, None), (2, 4), (3, 5)],
            [([], {}), (2, 4), (3, 5)], [(0, 1), None, (3, 5)], [((0, 1), (2, 3)), (4, 5)],
            [(0, 1)] * 300, [(at, at + 1) for at in range(0, 300, 2)], "x" * 20000,
        ]:
            self.refused(stock, corners, legs, pairing)

    def test_sorts_that_are_no_partners(self):
        stock, corners, legs = paired(), ["k", "k"], []
        # ends in, out, in, out
        good = pairings(stock, corners, legs)
        for pairing in ([(0, 1), (2, 3)], [(0, 2), (1, 3)], [(0, 3), (1, 2)]):
            if pairing in good:
                drawing_of(stock, corners, legs, pairing)
            else:
                self.refused(stock, corners, legs, pairing)
        self.assertEqual(len(good), 2)
        self.refused(mixed(), ["m"], [("p", "z"), ("q", "out")], [(0, 1), (2, 3)])
        self.refused(mixed(), ["m"], [("p", "z"), ("q", "out")], [(0, 2), (1, 3)])

    def test_where_there_is_none(self):
        for pairing in ([], [(0, 1)], [(0, 1), (1, 2)], [(0, 1), (2, 3)], None):
            self.refused(loose(3), ["k"], [], pairing)
        self.refused(loose(3), [], [], [(0, 1)])
        self.refused(loose(3), [], [], [()])

    def test_what_is_done_behind_the_call_changes_nothing(self):
        corners, legs, pairing = ["k"], list(LEGS), [(0, 2), (1, 3)]
        drawing = drawing_of(loose(2), corners, legs, pairing)
        before = contents(drawing)
        corners.append("k")
        legs.clear()
        pairing.clear()
        self.assertEqual(contents(drawing), before)


class Group(unittest.TestCase):
    def test_known_numbers(self):
        self.assertEqual(group(loose(3), []), 1)
        self.assertEqual(group(loose(3), ["k"]), 6)
        self.assertEqual(group(loose(3), ["k", "k"]), 2 * 6 * 6)
        self.assertEqual(group(loose(3, 2), ["k", "l", "k", "l", "l"]), 2 * 6 ** 2 * 6 * 2 ** 3)
        self.assertEqual(group(paired(), ["k", "l", "l"]), 2 * 2 * 2)
        self.assertEqual(group(mixed(), ["k", "k", "l", "m"]), 2 * 2 * 2)
        self.assertEqual(group(loose(5), ["k"] * 6), 720 * 120 ** 6)

    def test_how_often_a_drawing_comes(self):
        for stock, corners, legs in every_kind_of_stock():
            often = {}
            for pairing in pairings(stock, corners, legs):
                drawing = drawing_of(stock, corners, legs, pairing)
                often.setdefault(tuple(least(drawing).joins), [0, drawing])[0] += 1
            for many, drawing in often.values():
                self.assertEqual(many * turns(drawing), group(stock, corners))

    def test_how_often_a_drawing_comes_by_all_renamings(self):
        stock, corners, legs = loose(3, 1), ["k", "l", "k", "l"], LEGS
        often = {}
        for pairing in pairings(stock, corners, legs):
            drawing = drawing_of(stock, corners, legs, pairing)
            same = [renamed_plainly(drawing, numbers) for numbers in all_renamings(drawing)]
            often.setdefault(str(min(same)), [0, drawing])[0] += 1
        for many, drawing in often.values():
            self.assertEqual(many * turns(drawing), group(stock, corners))


if __name__ == "__main__":
    unittest.main()
