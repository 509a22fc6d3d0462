"""[10.1] texts of stocks and drawings, shown and read."""

import unittest

from endsum.drawings import Drawing
from endsum.errors import NoDrawing, NoStock, NoText
from endsum.stocks import Stock
from endsum.texts import read_drawing, read_stock, show_drawing, show_stock
from tests.samples import (all_drawings, contents, every_kind_of_stock, loose, mixed, odd_things,
                           paired)

SORTS = "sort in out / sort out in"
NOT_NAMES = ["", "A", "aB", "a1", "1", "a-b", "abcdefghi", "a.", "a/", "//", "\t", "a\n", "\n", "a\tb", "_", "a,b"]
NOT_NUMBERS = ["", "00", "01", "000000", "0000000", "1000000", "9999999", "-1", "+1", "1.0", "1,", "x", "0x1",
               "1_0", "\t", "1\n", "1/", "a", "1e1", "\u0661", "\u00b2", "\uff11"]


class Showing(unittest.TestCase):
    def test_stocks(self):
        self.assertEqual(show_stock(loose(3)), "sort a a / kind k a a a")
        self.assertEqual(show_stock(paired()), "sort in out / sort out in / kind k in out / kind l in in out")
        self.assertEqual(show_stock(mixed()), "sort z z / sort in out / sort out in"
                         " / kind k in out z z / kind l z / kind m in z")
        stock = Stock([("b", "b"), ("a", "a")], [("l", ("a", "b")), ("k", ("a",))])
        self.assertEqual(show_stock(stock), "sort b b / sort a a / kind l a b / kind k a")

    def test_drawings(self):
        thrice = Drawing(loose(3), ["k", "k"], [], [(0, "a", 1, "a")] * 3)
        self.assertEqual(show_drawing(thrice), "corner k / corner k / join 0 a 1 a / join 0 a 1 a / join 0 a 1 a")
        drawing = Drawing(paired(), ["k"], [("p", "in"), ("q", "out")], [(0, "in", 2, "out"), (0, "out", 1, "in")])
        self.assertEqual(show_drawing(drawing),
                         "corner k / leg p in / leg q out / join 0 in 2 out / join 0 out 1 in")
        legs = Drawing(paired(), [], [("p", "in"), ("q", "out")], [(0, "in", 1, "out")])
        self.assertEqual(show_drawing(legs), "leg p in / leg q out / join 0 in 1 out")
        loop = Drawing(loose(2), ["k"], [], [(0, "a", 0, "a")])
        self.assertEqual(show_drawing(loop), "corner k / join 0 a 0 a")

    def test_places_of_two_figures(self):
        legs = [(name, "a") for name in "uvwxyz"]
        drawing = Drawing(loose(1), ["k"] * 6, legs, [(at, "a", at + 6, "a") for at in range(6)])
        self.assertTrue(show_drawing(drawing).endswith(" / join 4 a 10 a / join 5 a 11 a"))
        self.assertEqual(read_drawing(loose(1), show_drawing(drawing)), drawing)

    def test_the_drawing_without_anything(self):
        for stock in (loose(1), paired(), mixed()):
            empty = Drawing(stock, [], [], [])
            self.assertEqual(show_drawing(empty), "")
            self.assertEqual(read_drawing(stock, ""), empty)

    def test_what_is_shown_is_read_as_an_equal_one(self):
        for stock, _, _ in every_kind_of_stock():
            self.assertEqual(read_stock(show_stock(stock)), stock)
        for drawing in all_drawings():
            before = contents(drawing)
            read = read_drawing(drawing.stock, show_drawing(drawing))
            self.assertEqual(read, drawing)
            self.assertEqual(contents(read), before)
            self.assertEqual(contents(drawing), before)
            self.assertEqual(show_drawing(read), show_drawing(drawing))

    def test_the_greatest_stock(self):
        sorts = [("abcdefgh", "abcdefgh"), ("b", "c"), ("c", "b")]
        kinds = [(name * 8, ("abcdefgh",) * 2 + ("b", "b", "c")) for name in "wxyz"]
        stock = Stock(sorts, kinds)
        self.assertEqual(read_stock(show_stock(stock)), stock)
        self.assertEqual(read_stock(show_stock(stock)).kinds, kinds)


class ReadingStocks(unittest.TestCase):
    def refused(self, at, text):
        with self.assertRaises(NoText) as caught:
            read_stock(text)
        self.assertEqual(caught.exception.at, at, text)

    def wrong(self, part, text):
        with self.assertRaises(NoStock) as caught:
            read_stock(text)
        self.assertEqual(caught.exception.part, part, text)

    def test_what_is_no_text(self):
        for thing in odd_things():
            if not isinstance(thing, str):
                self.refused(None, thing)
        self.refused(None, b"sort a a / kind k a")
        self.refused(None, ["sort a a / kind k a"])

    def test_without_signs(self):
        self.refused(0, "")
        for thing in odd_things():
            if isinstance(thing, str):
                self.refused(0, thing)

    def test_words_too_few_or_many(self):
        for part in ("sort", "sort a", "sort a a a", "kind", "kind k", "sort a a kind k a"):
            self.refused(0, part)
            self.refused(2, SORTS + " / " + part)
        for part in ("corner k", "leg p a", "join 0 a 0 a", "stock a a", "Sort a a", "sorts a a", "k a", "a a a"):
            self.refused(0, part)
            self.refused(2, SORTS + " / " + part)
            self.refused(3, SORTS + " / kind k in / " + part + " / sort")

    def test_blanks_side_by_side_or_at_an_end(self):
        for part in (" sort a a", "sort  a a", "sort a  a", "sort a a ", " kind k a", "kind  k a", "kind k  a",
                     "kind k a ", "kind k a  a", " ", "  ", "sort a ", "sort  a", "kind k "):
            self.refused(0, part)
            self.refused(1, "sort a a / " + part)
            self.refused(1, "sort a a / " + part + " / kind l a")

    def test_names_that_are_none(self):
        for word in NOT_NAMES:
            for part in (f"sort {word} a", f"sort a {word}", f"kind {word} a", f"kind k {word}",
                         f"kind k a {word} a", f"kind k a {word}"):
                self.refused(0, part)
                self.refused(1, "sort a a / " + part)

    def test_other_separators(self):
        for text in ("sort a a/kind k a", "sort a a /kind k a", "sort a a/ kind k a", "sort a a  / kind k a",
                     "sort a a // kind k a", "sort a a , kind k a", "sort a a\nkind k a", "sort a a | kind k a",
                     "sort\ta\ta / kind k a", "sort a a /", "/ sort a a", " / sort a a", "/"):
            self.refused(0, text)
        for text in ("sort a a /  kind k a", "sort a a / kind k a /", "sort a a / / kind k a",
                     "sort a a / kind k a\n", "sort a a /  / kind k a", "sort a a / "):
            self.refused(1, text)
        self.refused(2, "sort a a / kind k a / ")

    def test_a_part_behind_one_of_a_later_sort(self):
        self.refused(1, "kind k a / sort a a")
        self.refused(2, "sort in out / kind k in / sort out in")
        self.refused(3, "sort in out / kind k in / kind l in / sort out in / kind m A")

    def test_the_first_of_several(self):
        self.refused(1, "sort a a / sort A a / kind")
        self.refused(0, "x / sort A a / kind")
        self.refused(1, "kind k a / sort a a / x")
        self.refused(1, "kind k a / x / sort a a")

    def test_the_form_is_looked_at_ahead_of_the_rest(self):
        self.refused(2, "sort a b / kind k c / x")
        self.refused(1, "kind k c / kind k c ")

    def test_what_is_no_stock(self):
        self.wrong("sorts", "kind k a")
        self.wrong("kinds", "sort a a")
        self.wrong("sorts", "sort a b / kind k a")
        self.wrong("sorts", "sort a a / sort a a / kind k a")
        self.wrong("sorts", "sort a a / sort b b / sort c c / sort d d / kind k a")
        self.wrong("sorts", "sort a b / sort b b / kind k z")
        self.wrong("kinds", "sort a a / kind k b")
        self.wrong("kinds", "sort a a / kind k a / kind k a a")
        self.wrong("kinds", "sort a a / kind k a a a a a a")
        self.wrong("kinds", "sort a a / sort b b / kind k b a")
        self.wrong("kinds", "sort a a" + " / kind k a / kind l a / kind m a / kind n a / kind o a")

    def test_a_long_text(self):
        self.wrong("kinds", "sort a a / kind k" + " a" * 9000)
        self.refused(1500, "sort a a" + " / sort a a" * 1499 + " / ")


class ReadingDrawings(unittest.TestCase):
    def refused(self, at, text, stock=None):
        with self.assertRaises(NoText) as caught:
            read_drawing(stock or paired(), text)
        self.assertEqual(caught.exception.at, at, text)

    def wrong(self, part, text, stock):
        with self.assertRaises(NoDrawing) as caught:
            read_drawing(stock, text)
        self.assertEqual(caught.exception.part, part, text)

    def test_what_is_no_text(self):
        for thing in odd_things():
            if not isinstance(thing, str):
                self.refused(None, thing)
        self.refused(None, b"")
        self.refused(None, [""])

    def test_texts_that_are_none(self):
        for thing in odd_things():
            if isinstance(thing, str) and thing:
                self.refused(0, thing)

    def test_words_too_few_or_many(self):
        for part in ("corner", "corner k k", "leg", "leg p", "leg p a a", "join", "join 0 a 0", "join 0 a 0 a a",
                     "sort a a", "kind k a", "Corner k", "corners k", "k", "draw k"):
            self.refused(0, part)
            self.refused(1, "corner k / " + part)
            self.refused(3, "corner k / corner k / leg p in / " + part + " / corner")

    def test_blanks_side_by_side_or_at_an_end(self):
        for part in (" ", "  ", " corner k", "corner  k", "corner k ", "corner ", " leg p in", "leg p  in",
                     "leg p in ", "leg p ", " join 0 a 1 a", "join 0  a 1 a", "join 0 a 1 a ", "join 0 a 1 "):
            self.refused(0, part)
            self.refused(1, "corner k / " + part)

    def test_names_that_are_none(self):
        for word in NOT_NAMES:
            for part in (f"corner {word}", f"leg {word} a", f"leg p {word}", f"join 0 {word} 0 a",
                         f"join 0 a 0 {word}"):
                self.refused(0, part)
                self.refused(1, "corner k / " + part)

    def test_numbers_that_are_none(self):
        for word in NOT_NUMBERS:
            for part in (f"join {word} a 0 a", f"join 0 a {word} a"):
                self.refused(0, part)
                self.refused(1, "corner k / " + part)

    def test_numbers_of_up_to_six_figures(self):
        for word in ("0", "1", "10", "999999", "100000"):
            self.wrong("joins", f"join {word} a {word} a", loose(2))
            self.wrong("joins", f"corner k / join 0 a {word} a / join {word} a 7 a", loose(2))

    def test_other_separators(self):
        for text in ("corner k/corner k", "corner k /corner k", "corner k/ corner k", "corner k  / corner k",
                     "corner k // corner k", "corner k\ncorner k", "corner\tk", "corner k /", "/", " / "):
            self.refused(0, text)
        for text in ("corner k /  corner k", "corner k / / corner k", "corner k /  / corner k", "corner k / "):
            self.refused(1, text)

    def test_a_part_behind_one_of_a_later_sort(self):
        self.refused(1, "leg p in / corner k")
        self.refused(1, "join 0 a 0 a / corner k")
        self.refused(1, "join 0 a 0 a / leg p in")
        self.refused(3, "corner k / leg p in / leg q in / corner k / join 0 in 0 in")
        self.refused(3, "corner k / leg p in / join 0 a 0 a / leg q in")
        self.refused(2, "corner k / join 0 a 0 a / corner k / x")

    def test_the_first_of_several(self):
        self.refused(0, "corner K / leg p / join 0 a 0 a / corner k")
        self.refused(1, "corner k / leg p / join 0 a 0 a / corner k")
        self.refused(2, "corner k / join 0 a 0 a / corner k / leg p")
        self.refused(2, "corner k / join 0 a 0 a / leg P a / corner k")

    def test_the_form_is_looked_at_ahead_of_the_rest(self):
        self.refused(1, "corner other / join 01 a 0 a")
        self.refused(7, "corner k" + " / corner k" * 6 + " / ")

    def test_what_is_no_drawing(self):
        stock = loose(2)
        self.wrong("corners", "corner other", stock)
        self.wrong("corners", "corner k" + " / corner k" * 6, stock)
        self.wrong("corners", "corner other / leg p other", stock)
        self.wrong("legs", "leg p other", stock)
        self.wrong("legs", "corner k / leg q a / leg p a / join 0 a 1 a / join 0 a 2 a", stock)
        self.wrong("legs", "leg p a / leg p a / join 0 a 1 a", stock)
        self.wrong("joins", "corner k", stock)
        self.wrong("joins", "corner k / join 0 a 0 a / join 0 a 0 a", stock)
        self.wrong("joins", "corner k / leg p a / leg q a / join 0 a 2 a / join 0 a 1 a", stock)
        self.wrong("joins", "corner k / leg p a / leg q a / join 0 a 1 a / join 2 a 0 a", stock)
        self.wrong("joins", "corner k / join 0 b 0 b", stock)
        self.wrong("joins", "leg p in / leg q out / join 1 out 0 in", paired())
        self.assertEqual(read_drawing(stock, "corner k / join 0 a 0 a").joins, [(0, "a", 0, "a")])

    def test_kinds_of_values(self):
        drawing = read_drawing(paired(), "corner k / leg p in / leg q out / join 0 in 2 out / join 0 out 1 in")
        self.assertEqual(contents(drawing)[2:], (
            ["k"], [("p", "in"), ("q", "out")], [(0, "in", 2, "out"), (0, "out", 1, "in")]))
        self.assertIs(drawing.joins[0][0].__class__, int)
        self.assertIs(drawing.legs[0].__class__, tuple)

    def test_a_long_text(self):
        self.wrong("joins", "join 0 a 0 a" + " / join 0 a 0 a" * 1300, loose(2))
        self.refused(1300, "join 0 a 0 a" + " / join 0 a 0 a" * 1299 + " / join 0 a 0 a ")


if __name__ == "__main__":
    unittest.main()
