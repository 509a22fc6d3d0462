"""[9.1] trees and rings, [9.2] the sum over trees, and [0.3] as far as these reach it."""

import unittest
from itertools import combinations

from endsum.drawings import Drawing, beside, renamed
from endsum.errors import EndError, NoNumbers
from endsum.parts import cut, cuts
from endsum.trees import rings, tree_count, tree_sum
from tests.samples import (all_drawings, all_renamings, contents, ends_of, inner, loose,
                           odd_things, paired, plain_groups)

NUMBERS = [2, -3, 0, 5, 1, -1, 7, 10 ** 17, 0, -4, 11, 3, 13, -6, 17]
ALL = [2, 3, 5, 7, 11, 13, 17, 19, 23, 29, 31, 37, 41, 43, 47]


def plain_trees(drawing):
    """All trees, each as the sorted tuple of the places of its joins among the inner ones."""
    joins, corners = inner(drawing), range(len(drawing.corners))

    def hang_together(places):
        return len(plain_groups(corners, [joins[at] for at in places])) <= 1

    return [places for many in range(len(joins) + 1) for places in combinations(range(len(joins)), many)
            if hang_together(places)
            and not any(hang_together([at for at in places if at != one]) for one in places)]


def plain_sum(drawing, numbers):
    """The sum over all trees of the products of the numbers outside."""
    total = 0
    for places in plain_trees(drawing):
        product = 1
        for at, number in enumerate(numbers):
            product *= 1 if at in places else number
        total += product
    return total


def numbers_for(drawing, start=0):
    """A number for each inner join."""
    return [NUMBERS[(start + at) % len(NUMBERS)] for at in range(len(inner(drawing)))]


def of_pairs(stock, kind, many, pairs, legs=()):
    """A drawing with so many corners of a kind, and these joins of the sort a."""
    rows = [(one, "a", other, "a") for one, other in pairs]
    return Drawing(stock, [kind] * many, list(legs), sorted(rows))


def full():
    """Six corners of five ends, each joined with each other one."""
    return of_pairs(loose(5), "k", 6, combinations(range(6), 2))


def shuffled(corners, legs, step):
    """A drawing of corners with five, four, three and two ends, joined by counting on."""
    stock = loose(5, 4, 3, 2)
    ends = ends_of(stock, corners, legs)
    order = [(at * step) % len(ends) for at in range(len(ends))]
    rows = [min(ends[one], ends[other]) + max(ends[one], ends[other])
            for one, other in zip(order[::2], order[1::2])]
    return Drawing(stock, list(corners), list(legs), sorted(rows))


def larger():
    """Drawings of up to six corners with up to ten inner joins, of no form of their own."""
    legs = [("x", "a"), ("y", "a")]
    return [shuffled(corners, some, step) for step in (13, 17, 19, 23)
            for corners, some in (("klmn", []), ("kkkk", []), ("kkkk", legs), ("lllll", []),
                                  ("lmlmn", []), ("mmmmmm", []), ("mmmmmm", legs))]


def by_cofactors(rows):
    """A determinant."""
    if not rows:
        return 1
    return sum((-1) ** at * rows[0][at] * by_cofactors([row[:at] + row[at + 1:] for row in rows[1:]])
               for at in range(len(rows)))


def count_by_determinant(drawing):
    """The number of trees, of a drawing with a corner, by the theorem of the determinant."""
    many = len(drawing.corners)
    rows = [[0] * many for _ in range(many)]
    for one, _, other, _ in inner(drawing):
        for here, there in ((one, other), (other, one)):
            rows[here][here] += here != there
            rows[here][there] -= here != there
    return by_cofactors([row[1:] for row in rows[1:]])


class Counts(unittest.TestCase):
    def test_against_all_sets_of_inner_joins(self):
        seen = {}
        for drawing in all_drawings() + larger():
            before = contents(drawing)
            wanted = len(plain_trees(drawing))
            told = tree_count(drawing)
            self.assertEqual(told, wanted, before)
            self.assertIs(told.__class__, int)
            self.assertEqual(contents(drawing), before)
            seen[wanted] = seen.get(wanted, 0) + 1
        self.assertGreater(len(seen), 15)
        self.assertGreater(seen[0], 20)

    def test_equal_joins_are_apart(self):
        self.assertEqual(tree_count(of_pairs(loose(3), "k", 2, [(0, 1)] * 3)), 3)
        self.assertEqual(tree_count(of_pairs(loose(4), "k", 3, [(0, 1), (0, 1), (0, 2), (0, 2), (1, 2), (1, 2)])), 12)

    def test_loops_and_legs_are_in_none(self):
        bell = of_pairs(loose(3), "k", 2, [(0, 0), (0, 1), (1, 1)])
        self.assertEqual(tree_count(bell), 1)
        legs = [("x", "a"), ("y", "a")]
        self.assertEqual(tree_count(of_pairs(loose(3), "k", 2, [(0, 1), (0, 1), (0, 2), (1, 3)], legs)), 2)

    def test_no_corner_and_one_corner(self):
        self.assertEqual(tree_count(Drawing(loose(1), [], [], [])), 1)
        self.assertEqual(tree_count(Drawing(paired(), [], [("p", "in"), ("q", "out")], [(0, "in", 1, "out")])), 1)
        self.assertEqual(tree_count(of_pairs(loose(1), "k", 1, [(0, 1)], [("x", "a")])), 1)
        self.assertEqual(tree_count(of_pairs(loose(4), "k", 1, [(0, 0)] * 2)), 1)

    def test_corners_that_do_not_hang_together(self):
        loops = of_pairs(loose(2), "k", 2, [(0, 0), (1, 1)])
        self.assertEqual(tree_count(loops), 0)
        legs = [("x", "a"), ("y", "a")]
        self.assertEqual(tree_count(of_pairs(loose(1), "k", 2, [(0, 2), (1, 3)], legs)), 0)
        self.assertEqual(tree_count(of_pairs(loose(2), "k", 4, [(0, 2), (0, 2), (1, 3), (1, 3)])), 0)
        self.assertEqual(tree_count(of_pairs(loose(2), "k", 3, [(0, 1), (0, 1), (2, 2)])), 0)

    def test_sorts_do_not_matter(self):
        ring = Drawing(paired(), ["k"] * 3, [], [(0, "in", 1, "out"), (0, "out", 2, "in"), (1, "in", 2, "out")])
        self.assertEqual(tree_count(ring), 3)
        twice = Drawing(paired(), ["k"] * 2, [], [(0, "in", 1, "out"), (0, "out", 1, "in")])
        self.assertEqual(tree_count(twice), 2)

    def test_six_corners_of_five_ends(self):
        self.assertEqual(tree_count(full()), 6 ** 4)
        sizes = []
        for step in (1, 7, 11, 13, 17, 19, 23, 29):
            drawing = shuffled("kkkkkk", [], step)
            sizes.append(tree_count(drawing))
            self.assertEqual(sizes[-1], count_by_determinant(drawing))
        self.assertGreater(max(sizes), 100)

    def test_renamed_ones_have_as_many(self):
        for drawing in (full(), shuffled("kkkkkk", [], 7), shuffled("kkkkkk", [], 11)):
            for numbers in all_renamings(drawing)[::50]:
                self.assertEqual(tree_count(renamed(drawing, numbers)), tree_count(drawing))

    def test_a_cut_is_in_every_tree(self):
        for drawing in all_drawings():
            for join in cuts(drawing) if len(drawing.legs) < 5 else []:
                self.assertEqual(tree_count(cut(drawing, join, ("one", "two"))), 0)


class Rings(unittest.TestCase):
    def test_against_their_words(self):
        for drawing in all_drawings():
            before = contents(drawing)
            joins = inner(drawing)
            groups = plain_groups(range(len(drawing.corners)), joins)
            self.assertEqual(rings(drawing), len(joins) - len(drawing.corners) + len(groups))
            self.assertEqual(contents(drawing), before)

    def test_as_many_as_stay_outside_of_a_tree(self):
        for drawing in all_drawings():
            for places in plain_trees(drawing)[:1]:
                self.assertEqual(rings(drawing), len(inner(drawing)) - len(places))

    def test_some(self):
        self.assertEqual(rings(Drawing(loose(1), [], [], [])), 0)
        self.assertEqual(rings(Drawing(loose(1), [], [("x", "a"), ("y", "a")], [(0, "a", 1, "a")])), 0)
        self.assertEqual(rings(of_pairs(loose(1), "k", 1, [(0, 1)], [("x", "a")])), 0)
        self.assertEqual(rings(of_pairs(loose(4), "k", 1, [(0, 0)] * 2)), 2)
        self.assertEqual(rings(of_pairs(loose(3), "k", 2, [(0, 1)] * 3)), 2)
        self.assertEqual(rings(of_pairs(loose(2), "k", 4, [(0, 2), (0, 2), (1, 3), (1, 3)])), 2)
        self.assertEqual(rings(of_pairs(loose(1), "k", 6, [(0, 1), (2, 3), (4, 5)])), 0)
        self.assertEqual(rings(full()), 10)

    def test_beside_one_another_they_add(self):
        one, other = of_pairs(loose(3), "k", 2, [(0, 1)] * 3), of_pairs(loose(3), "k", 2, [(0, 0), (0, 1), (1, 1)])
        self.assertEqual(rings(beside(one, other)), rings(one) + rings(other))


class Sums(unittest.TestCase):
    def test_against_all_sets_of_inner_joins(self):
        other_than_0 = 0
        for at, drawing in enumerate(all_drawings() + larger()):
            numbers = numbers_for(drawing, at)
            before = (contents(drawing), list(numbers))
            wanted = plain_sum(drawing, numbers)
            self.assertEqual(tree_sum(drawing, numbers), wanted, before)
            self.assertEqual((contents(drawing), numbers), before)
            self.assertEqual(tree_sum(drawing, ALL[:len(numbers)]), plain_sum(drawing, ALL[:len(numbers)]))
            other_than_0 += wanted != 0
        self.assertGreater(other_than_0, 50)

    def test_with_1_for_each_it_is_how_many_there_are(self):
        for drawing in [*all_drawings(), full(), shuffled("kkkkkk", [], 7)]:
            self.assertEqual(tree_sum(drawing, [1] * len(inner(drawing))), tree_count(drawing))

    def test_in_the_order_of_the_joins(self):
        legs = [("x", "a"), ("y", "a")]
        drawing = of_pairs(loose(4), "k", 2, [(0, 0), (0, 1), (0, 2), (1, 1), (1, 3)], legs)
        self.assertEqual(tree_sum(drawing, [2, 3, 5]), 10)
        tail = of_pairs(loose(3), "k", 2, [(0, 1), (0, 1), (0, 2), (1, 3)], legs)
        self.assertEqual(tree_sum(tail, [3, 5]), 8)
        path = Drawing(loose(4, 2), ["k", "l", "k"], [], [(0, "a", 0, "a"), (0, "a", 1, "a"), (0, "a", 2, "a"),
                                                         (1, "a", 2, "a"), (2, "a", 2, "a")])
        # The joins 1, 2 and 3 are a ring, of which one stays outside.
        self.assertEqual(tree_sum(path, [2, 3, 5, 7, 11]), 2 * 11 * (3 + 5 + 7))

    def test_numbers_of_0_and_below(self):
        thrice = of_pairs(loose(3), "k", 2, [(0, 1)] * 3)
        self.assertEqual(tree_sum(thrice, [0, 3, 5]), 15)
        self.assertEqual(tree_sum(thrice, [0, 0, 5]), 0)
        self.assertEqual(tree_sum(thrice, [-2, 3, 5]), -10 - 6 + 15)
        self.assertEqual(tree_sum(thrice, [2, -2, 0]), -4)
        self.assertEqual(tree_sum(full(), [0] * 15), 0)
        # All joins that have 0 have to be in the tree: here they are one.
        star = [0 if one == 0 else 2 for one, _ in combinations(range(6), 2)]
        self.assertEqual(tree_sum(full(), star), 2 ** 10)

    def test_great_numbers(self):
        thrice = of_pairs(loose(3), "k", 2, [(0, 1)] * 3)
        most = 10 ** 18 - 1
        self.assertEqual(tree_sum(thrice, [most, -most, most]), -(most ** 2))
        self.assertEqual(tree_sum(full(), [most] * 15), 6 ** 4 * most ** 10)

    def test_where_there_is_no_tree(self):
        self.assertEqual(tree_sum(of_pairs(loose(2), "k", 2, [(0, 0), (1, 1)]), [3, 5]), 0)
        self.assertEqual(tree_sum(of_pairs(loose(2), "k", 4, [(0, 2), (0, 2), (1, 3), (1, 3)]), [1] * 4), 0)
        legs = [("x", "a"), ("y", "a")]
        self.assertEqual(tree_sum(of_pairs(loose(1), "k", 2, [(0, 2), (1, 3)], legs), []), 0)

    def test_no_corner_and_one_corner(self):
        self.assertEqual(tree_sum(Drawing(loose(1), [], [], []), []), 1)
        legs = [("x", "a"), ("y", "a")]
        self.assertEqual(tree_sum(of_pairs(loose(1), "k", 0, [(0, 1)], legs), []), 1)
        self.assertEqual(tree_sum(of_pairs(loose(1), "k", 1, [(0, 1)], legs[:1]), []), 1)
        self.assertEqual(tree_sum(of_pairs(loose(4), "k", 1, [(0, 0)] * 2), [-3, 7]), -21)
        self.assertEqual(tree_sum(of_pairs(loose(4), "k", 1, [(0, 0)] * 2), [0, 7]), 0)

    def test_of_six_corners_against_another_reckoning(self):
        """By the sets of five joins alone: of any other set none is a tree of six corners."""
        for drawing in (full(), shuffled("kkkkkk", [], 11)):
            joins = inner(drawing)
            weighed = tree_sum(drawing, [-1 if one == 0 else 1 for one, _, _, _ in joins])
            wanted = 0
            corners = range(6)
            at_first = [join[0] == 0 for join in joins]
            for places in combinations(range(15), 5):
                if len(plain_groups(corners, [joins[at] for at in places])) == 1:
                    outside = sum(at_first[at] for at in range(15) if at not in places)
                    wanted += (-1) ** outside
            self.assertEqual(weighed, wanted)


class Refusals(unittest.TestCase):
    def refused(self, drawing, numbers):
        with self.assertRaises(NoNumbers):
            tree_sum(drawing, numbers)

    def test_other_than_a_number_for_each_inner_join(self):
        legs = [("x", "a"), ("y", "a")]
        drawing = of_pairs(loose(3), "k", 2, [(0, 1), (0, 1), (0, 2), (1, 3)], legs)
        self.assertEqual(tree_sum(drawing, [3, 5]), 8)
        for numbers in ([], [1], [1, 2, 3], [1, 2, 3, 4], (1, 2), {0: 1, 1: 2}, "12", [1, True], [False, 1],
                        [1, "2"], [1, 2.0], [1, None], [[1], [2]], [(1,), (2,)], [b"1", 1], None, 2, {1, 2}):
            self.refused(drawing, numbers)

    def test_anything(self):
        empty, one = Drawing(loose(1), [], [], []), of_pairs(loose(4), "k", 1, [(0, 0)] * 2)
        for thing in odd_things():
            self.refused(empty, thing)
            self.refused(one, thing)

    def test_also_where_there_is_no_tree(self):
        loops = of_pairs(loose(2), "k", 2, [(0, 0), (1, 1)])
        for numbers in ([], [1], [1, 2, 3], [1, True], None):
            self.refused(loops, numbers)

    def test_what_is_refused_changes_nothing(self):
        thrice = of_pairs(loose(3), "k", 2, [(0, 1)] * 3)
        before, numbers = contents(thrice), [1, 2, "3"]
        with self.assertRaises(EndError):
            tree_sum(thrice, numbers)
        self.assertEqual(numbers, [1, 2, "3"])
        self.assertEqual(contents(thrice), before)


if __name__ == "__main__":
    unittest.main()
