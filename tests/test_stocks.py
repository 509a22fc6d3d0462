"""[1.1] Stocks, and [0.3] as far as it reaches them."""

import copy
import unittest

from endsum.errors import EndError, NoDrawing, NoStock
from endsum.drawings import Drawing
from endsum.stocks import Stock
from tests.samples import LOOSE, PAIRED, THREE, loose, mixed, odd_things, paired

KINDS = [("k", ("a",))]

NO_SORTS = [
    [],
    [("a", "a"), ("b", "b"), ("c", "c"), ("d", "d")],
    (("a", "a"),),
    {"a": "a"},
    [["a", "a"]],
    [("a",)],
    [("a", "a", "a")],
    [()],
    ["aa"],
    [("a", "a"), ("a", "a")],
    [("a", "b"), ("b", "a"), ("a", "b")],
    [("a", "a"), ("a", "b"), ("b", "a")],
    [("a", "b")],
    [("a", "b"), ("b", "b")],
    [("a", "b"), ("b", "c"), ("c", "a")],
    [("a", "b"), ("b", "a"), ("c", "a")],
    [("a", "a"), ("b", "c")],
    [("", "")],
    [("A", "A")],
    [("a1", "a1")],
    [("a b", "a b")],
    [("a_", "a_")],
    [("\u00e4", "\u00e4")],
    [("\u0131", "\u0131")],
    [("\u00aa", "\u00aa")],
    [("a\n", "a\n")],
    [("abcdefghi", "abcdefghi")],
    [("a", "a"), ("abcdefghi", "abcdefghi")],
    [(b"a", b"a")],
    [(1, 1)],
    [(True, True)],
    [(None, None)],
    [(("a",), ("a",))],
    [("a", None)],
    [(None, "a")],
    [("a", "a"), None],
    [("a", "a"), ("b", 1)],
    [("a", "a"), ("b", ["b"])],
    [("a", "a"), (["b"], "b")],
]

NO_KINDS = [
    [],
    [(name, ("a",)) for name in "klmno"],
    (("k", ("a",)),),
    {"k": ("a",)},
    [["k", ("a",)]],
    [("k",)],
    [("k", ("a",), "a")],
    [()],
    ["ka"],
    [("k", "a")],
    [("k", ["a"])],
    [("k", {"a": 1})],
    [("k", ())],
    [("k", ("a",) * 6)],
    [("k", ("a",)), ("k", ("a",))],
    [("k", ("a",)), ("k", ("a", "a"))],
    [("k", ("a",)), ("l", ("a",)), ("k", ("b",))],
    [("k", ("c",))],
    [("k", ("a", "c"))],
    [("k", ("k",))],
    [("k", ("b", "a"))],
    [("k", ("a", "b", "a"))],
    [("", ("a",))],
    [("K", ("a",))],
    [("k1", ("a",))],
    [("k ", ("a",))],
    [("abcdefghi", ("a",))],
    [(1, ("a",))],
    [(True, ("a",))],
    [(None, ("a",))],
    [(b"k", ("a",))],
    [(["k"], ("a",))],
    [("k", (b"a",))],
    [("k", (1,))],
    [("k", (True,))],
    [("k", (None,))],
    [("k", (["a"],))],
    [("k", ({},))],
    [("k", ("a", None))],
    [("k", (("a",),))],
    [("k", ("a",)), None],
    [("k", ("a",)), ("l", ())],
    [("k", ("a",)), ("l", ("a", 1))],
]
TWO = [("a", "a"), ("b", "b")]


class Made(unittest.TestCase):
    def test_values_are_as_handed_in(self):
        kinds = [("node", ("in", "out")), ("in", ("in",)), ("z", ("in", "out", "out", "z", "z"))]
        stock = Stock(THREE, kinds)
        self.assertEqual(stock.sorts, [("z", "z"), ("in", "out"), ("out", "in")])
        self.assertEqual(stock.kinds, kinds)
        self.assertIs(stock.sorts.__class__, list)
        self.assertIs(stock.kinds.__class__, list)

    def test_at_the_limits(self):
        Stock([("a", "a")], [("k", ("a",))])
        Stock([("a", "a"), ("b", "b"), ("c", "c")], [(name, ("a",) * 5) for name in "klmn"])
        name = "abcdefgh"
        Stock([(name, name)], [(name, (name,))])
        Stock([("z", "z")], [("z", ("z",)), ("zz", ("z",))])

    def test_a_sort_may_be_its_own_partner_or_have_another(self):
        for sorts in (LOOSE, PAIRED, THREE, [("b", "a"), ("a", "b")]):
            self.assertEqual(Stock(sorts, [("k", (sorts[0][0],))]).sorts, sorts)

    def test_what_is_handed_in_stays(self):
        sorts, kinds = list(PAIRED), [("k", ("in", "out"))]
        before = copy.deepcopy((sorts, kinds))
        Stock(sorts, kinds)
        self.assertEqual((sorts, kinds), before)

    def test_what_is_done_behind_the_call_changes_nothing(self):
        sorts, kinds = list(PAIRED), [("k", ("in", "out"))]
        stock = Stock(sorts, kinds)
        sorts.append(("z", "z"))
        kinds[0] = None
        kinds.append(None)
        self.assertEqual(stock.sorts, PAIRED)
        self.assertEqual(stock.kinds, [("k", ("in", "out"))])

    def test_two_stocks_of_the_same_lists_share_none(self):
        sorts, kinds = list(LOOSE), list(KINDS)
        one, other = Stock(sorts, kinds), Stock(sorts, kinds)
        self.assertIsNot(one.sorts, other.sorts)
        self.assertIsNot(one.kinds, other.kinds)


class Refused(unittest.TestCase):
    def refused(self, sorts, kinds, part):
        before = repr((sorts, kinds))
        with self.assertRaises(NoStock, msg=before) as caught:
            Stock(sorts, kinds)
        self.assertEqual(caught.exception.part, part, before)
        self.assertIsInstance(caught.exception, EndError)
        self.assertNotIsInstance(caught.exception, NoDrawing)
        self.assertEqual(repr((sorts, kinds)), before)

    def test_no_sorts(self):
        for sorts in NO_SORTS + odd_things():
            self.refused(sorts, KINDS, "sorts")

    def test_no_kinds(self):
        for kinds in NO_KINDS + odd_things():
            self.refused(TWO, kinds, "kinds")

    def test_sorts_come_first(self):
        for kinds in NO_KINDS + odd_things():
            self.refused([("a", "b")], kinds, "sorts")
        for sorts in NO_SORTS + odd_things():
            self.refused(sorts, None, "sorts")

    def test_long_lists(self):
        self.refused([("a", "a")] * 300, KINDS, "sorts")
        self.refused(TWO, [("k", ("a",))] * 300, "kinds")
        self.refused(TWO, [("k", ("a",) * 300)], "kinds")
        self.refused(TWO, [("k" * 20000, ("a",))], "kinds")


class Equal(unittest.TestCase):
    def test_equal_where_both_are(self):
        self.assertTrue(mixed() == mixed())
        self.assertFalse(mixed() != mixed())
        self.assertIs(loose(1) == loose(1), True)

    def test_unequal_where_sorts_or_kinds_are_unlike(self):
        stock = Stock(PAIRED, [("k", ("in",)), ("l", ("in",))])
        others = [
            Stock([("out", "in"), ("in", "out")], stock.kinds),
            Stock(PAIRED, [("l", ("in",)), ("k", ("in",))]),
            Stock(PAIRED, [("k", ("in",))]),
            Stock(PAIRED, [("k", ("in",)), ("l", ("out",))]),
            Stock(PAIRED + [("z", "z")], stock.kinds),
            Stock([("in", "in"), ("out", "out")], stock.kinds),
            loose(1),
        ]
        for other in others:
            self.assertIs(stock == other, False)
            self.assertIs(other == stock, False)
            self.assertIs(stock != other, True)

    def test_unequal_to_what_is_no_stock(self):
        stock = paired()
        others = [thing for thing in odd_things() if not isinstance(thing, Stock)]
        others += [stock.sorts, (stock.sorts, stock.kinds), [stock], Drawing(stock, [], [], [])]
        for other in others:
            self.assertIs(stock == other, False)
            self.assertIs(other == stock, False)
            self.assertIs(stock != other, True)


if __name__ == "__main__":
    unittest.main()
